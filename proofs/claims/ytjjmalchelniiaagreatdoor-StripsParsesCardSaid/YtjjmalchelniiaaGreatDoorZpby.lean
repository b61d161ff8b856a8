/- No condition. -/
import Derived.Test.YtjjmalchelniiaaGreatDoorZpa
import Derived.Test.YtjjmalchelniiaaGreatDoorZpg
import Derived.Test.YtjjmalchelniiaaGreatDoorZpi
import Derived.Test.YtjjmalchelniiaaGreatDoorZpj
import Derived.Test.YtjjmalchelniiaaGreatDoorZpl
import Derived.Test.YtjjmalchelniiaaGreatDoorZpo
import Derived.Test.YtjjmalchelniiaaGreatDoorZps
import Derived.Test.YtjjmalchelniiaaGreatDoorZpx
import Derived.Test.YtjjmalchelniiaaGreatDoorZpy
import Derived.Test.YtjjmalchelniiaaGreatDoorZpz
import Derived.Test.YtjjmalchelniiaaGreatDoorZpbj
import Derived.Test.YtjjmalchelniiaaGreatDoorZpbm
import Derived.Test.YtjjmalchelniiaaGreatDoorZpbq
import Derived.Test.YtjjmalchelniiaaGreatDoorZpbr
import Derived.Test.YtjjmalchelniiaaGreatDoorZpbs
import Derived.Test.YtjjmalchelniiaaGreatDoorZpbt
import Derived.Test.YtjjmalchelniiaaGreatDoorZpbu
import Derived.Test.YtjjmalchelniiaaGreatDoorZpbv
import Derived.Test.YtjjmalchelniiaaGreatDoorZpbw
import Derived.Test.YtjjmalchelniiaaGreatDoorZpbx
open Go.Proofs.Tryz
open Go renaming World->A5,Value->A0,Addr->Aa,Calls->A9,Oper->A4,Operand->A8,Ending->Ae
set_option maxHeartbeats 8000000
namespace Go.Proofs.YtjjmalchelniiaaGreatDoor
open Go.RowKit Go.Lib
theorem Wgk{p:Prop}(h:p:=by
 go_enter func160,ntmps160
 go_wp2
 go_ret
 exact⟨ES xG,rfl⟩):p:=h
theorem Wgj{p:Prop}(h:p:=by
 go_enter func21,ntmps21
 go_wp2
 go_ret
 exact⟨AJ F.out.symm,f.out⟩):p:=h
theorem Wgi{p:Prop}(h:p:=by
 go_enter func160,ntmps160
 go_wp2
 go_ret
 exact⟨ES (by rw[a.out]),rfl⟩):p:=h
theorem Wgh{p:Prop}(h:p:=by
 go_wp2_with fail
 refine cm.mono ?_;rintro e x ⟨rfl,rfl⟩;clear cm
 exact Wf8):p:=h
theorem Wgg{p:Prop}(h:p:=by
 refine DX fun x l=>?_
 go_wp2
 go_meet
 case rel=>exact⟨(by rw[cu.out];first|done|rfl),l⟩):p:=h
theorem Wgf{p:Prop}(h:p:=by
 clear h3 e1
 go_enter func179,ntmps179
 go_wp2_with (rw[b.out,i.out])
 go_ret
 exact⟨xQ,d⟩):p:=h
theorem Wge{p:Prop}(h:p:=by
 clear hF
 go_enter func21,ntmps21
 go_wp2
 go_region
 go_wp2
 go_ret
 exact⟨AJ F.out.symm,d⟩):p:=h
theorem Wgd{p:Prop}(h:p:=by
 clear b B m
 go_enter func10,ntmps10
 go_wp2_with (rw[t.out,ao.out])
 go_ret
 exact⟨by rw[a1.out];rfl,H⟩):p:=h
theorem Wgc{p:Prop}(h:p:=by
 have j:=d.drew;clear hF
 go_enter func23,ntmps23
 go_wp2
 go_region
 go_wp2
 go_ret
 exact⟨AJ F.out.symm,j⟩):p:=h
theorem Wgb{p:Prop}(h:p:=by
 have F:=Dm (show R=true by rw[hF];rfl);clear hF
 go_enter func23,ntmps23
 go_wp2
 go_ret
 exact⟨AJ F.out.symm,d⟩):p:=h
theorem Wga{p:Prop}(h:p:=by
 injection e with e;omega):p:=h
theorem Wf9{p:Prop}(h:p:=by
 clear K M
 go_wp2_with (first|(with_reducible refine Nb rfl 39 _ rfl X rfl 39 vs.toArray (0,0) _ Z Oz rfl a ?_)|(with_reducible refine AK rfl 39 _ _ rfl A vs.toArray Y rfl rfl 39 W a i d ?_;intro D k b))
 refine Hb (C0 rfl _ _ A 39 _ (0,0) _ rfl k Oz rfl a) rfl ?_;exact⟨vs,by rw[I.out];rfl,C.out _ _ F b⟩):p:=h
theorem Wf8{p:Prop}(h:p:=by
 go_wp2_with (with_reducible refine AK rfl 24 _ _ rfl A _ _ rfl rfl 24 F i rfl R ?_;intro wz b d)
 refine Hb (B0 rfl _ _ A 24 _ (0,0) _ rfl b Px rfl i) rfl ?_;rw[W.out];exact⟨_,rfl,T.out _,r.bad d⟩):p:=h
theorem Wf7{p:Prop}(h:p:=by
 go_wp2_with (first|(with_reducible refine BL rfl 39 _ _ rfl vs.toArray Y 39 rfl rfl a i d ?_;rw[H.out,ab.out])|(with_reducible refine Nb rfl 39 _ rfl X rfl 39 vs.toArray (0,0) _ r Oz rfl a ?_)|(with_reducible refine AK rfl 39 _ _ rfl A vs.toArray Y rfl rfl 39 B a i d ?_;intro D k b))
 refine Hb (C0 rfl _ _ A 39 _ (0,0) _ rfl k Oz rfl a) rfl ?_;exact⟨vs,by rw[I.out];rfl,C.out _ _ E b⟩):p:=h
theorem Wf6{p:Prop}(h:p:=by
 refine m.out _ _ (a6.out _ O) (fun n=>?_);clear m K g n;have g:=(a6.out _ O)
 try simp only[A1]
 refine O8 (rs:=[21]) tN sV ?_;refine O6 rfl (fun K m=>?_) O7
 go_simp
 go_wp2_with fail
 refine(cg.out _ O).mono ?_;rintro e v3 ⟨sl,rfl,F,ao,T⟩;have I:Yah [some rb] r v3:=(Yah.below (L:=[some rb]) O).trans (Yah.one (L:=[some rb]) T fun j _ e=>Wae) fun j _ h=>h;have av:=(Am.1 gC).1;have gC:=(T.block C av sU).trans gC;have H:∀i,i<6->∃P cap,sl i=.slice P (c.ev i).length cap/\DR [some C] v3 P (c.ev i)/\CV r.heap.size P:=fun i hi=>by
  obtain⟨P,cap,h1,h2,h3⟩:=F i hi;refine⟨P,cap,h1,⟨h2,?_⟩,h3.mono O.size⟩;rcases h2 with h2|⟨b,o,h2,h4,-⟩
  ·exact .inl h2
  ·exact .inr ⟨b,o,h2,fun hm=>Wa4⟩
 clear F av;clear T;refine m.out _ _ (ac.out _ I) (fun n=>?_);clear m K g n;have g:=(ac.out _ I)
 try simp only[A1]
 refine AC 22 (some 6) g ?_
 try simp only[A1]
 refine AC 23 (some 29) g ?_
 try simp only[A1]
 refine AC 24 (some 30) g ?_
 exact Wf5):p:=h
theorem Wf5{p:Prop}(h:p:=by
 try simp only[A1]
 refine O8 (rs:=[26]) tN sV ?_;refine O6 rfl (fun K m=>?_) O7;refine(Bb tN).mpr ?_;have ap:(prog.info? 77).map (·.size)=some (AD c sl).toArray.size:=Wa3;have aq:Y.size=(AD c sl).toArray.size:=by rw[a7];rfl
 have ar:(AD c sl).toArray.all (·.oneCell')=true:=NE _ _ fun i hi=>Wbe;refine Od 77 _ _ rfl C (AD c sl).toArray tN tN 77 Y gC ap aq ar ?_;obtain⟨vS,E⟩:=Ah (v3.setRow C (AD c sl).toArray);have eS:vS.heap[C]? =some (.cells (AD c sl).toArray 77 (0,0)):=Wbl;have J:v3.grownBy vS (some C):=Wbb;have t:Yah [some rb] r vS:=I.trans (Yah.one (L:=[some C]) J fun j _ e=>Wae) fun j hj h=>Wbf;have au:AE vS rb s q:=ao.grown J sX;rw[E];clear E;refine m.out _ _ (ac.out _ t) (fun n=>?_);clear m K g n;have g:=(ac.out _ t)
 try simp only[Act.put,Ao]
 refine AC 27 (some 5) g ?_
 try simp only[Act.put]
 refine Ob tN ?_ _
 go_wp2
 go_meet
 case rel=>
  refine⟨C,sl,rfl,rfl,eS,ai,t,au,fun i hi=>?_⟩;obtain⟨P,cap,h1,h2,h3⟩:=H i hi;exact⟨P,cap,h1,(h2.kept J fun k hk=>Wa6),h3⟩):p:=h
theorem Wbb{p:Prop}(h:p:=by rw[<-E];exact⟨rfl,rfl,rfl,by simp,fun k _ hk=>En _ _ _ _ (by intro e;exact hk (by rw[e]))⟩):p:=h
theorem Wbc{p:Prop}(h:p:=by have c0:=(show x.cell? ⟨G,0,none⟩=some (.pointer (some ⟨rb,0,none⟩)) from b);go_simp):p:=h
theorem Wbd{p:Prop}(h:p:=by rw[O.out,G,Bb (by decide),show p / 8=a by have:=al.out;omega]):p:=h
theorem Wbe{p:Prop}(h:p:=by obtain⟨P,cap,h1,-,-⟩:=H i hi;rw[h1];rfl):p:=h
theorem Wbf{p:Prop}(h:p:=by have e:=Df.1 h;injection e with e;omega):p:=h
theorem Wbg{p:Prop}(h:p:=by have:=AO.fresh m.out.own _ e.symm;have:=m.out.ord;omega):p:=h
theorem Wbh{p:Prop}(h:p:=by have e:=Df.1 hm;injection e with e;have:=ch.out;omega):p:=h
theorem Wbi{p:Prop}(h:p:=by have e:=Df.1 hm;injection e with e;have:=bj.out;omega):p:=h
theorem Wbj{p:Prop}(h:p:=by rw[show zs.toArray.size=8 by rw[<-k];rfl];kernel_rfl):p:=h
theorem Wbk{p:Prop}(h:p:=by rw[Le (by omega)];omega):p:=h
theorem Wbl{p:Prop}(h:p:=by rw[<-E];exact Es _ _ _ _ _ _ gC):p:=h
theorem Wbm{p:Prop}(h:p:=by simp;have:=H.out;omega):p:=h
theorem Wbn{p:Prop}(h:p:=by rw[<-hZ];simp[Value.oneCell']):p:=h
theorem Wbo{p:Prop}(h:p:=by simp[Value.oneCell']):p:=h
theorem Wbp{p:Prop}(h:p:=by have c0:=T.out x b;go_simp):p:=h
theorem Wbq{p:Prop}(h:p:=by have:=ab.out;omega):p:=h
abbrev Px:=@underlying24
abbrev Py:=@ByteArray.toList_eq
abbrev Pz:=@underlying22
theorem ShV.shape {w:A5}{S:ShP}{vs:List A0}(h:ShV w S vs):vs.length=8/\∀u∈vs,u.oneCell'=true:=by
 obtain⟨a,b,ca,cb,rfl,-⟩:=h;refine⟨rfl,fun u c=>?_⟩;simp only[AU,Ee,Eg,Ep] at c;rcases c with rfl|rfl|rfl|rfl|rfl|rfl|rfl|rfl <;> rfl
def HL:A5->Option Aa->List ShP->Prop:=EE 8 ShV
theorem HL.below {w x:A5}{q:Option Aa}{l:List ShP}(h:HL w q l)(a:Below w.heap.size w x):HL x q l:=EE.below h (ShV.below a) a
theorem HL.at_ {w:A5}{q:Option Aa}{l:List ShP}(h:HL w q l)(c:0<l.length):
  ∃b o,q=some ⟨b,o,none⟩/\b<w.heap.size/\∀x,Below w.heap.size w x->∀i,(h:i<l.length)->∃vs,ShV x l[i] vs/\(vs.length=8/\∀u∈vs,u.oneCell'=true)/\∀(j:Nat) v,vs[j]? =some v->x.cell? ⟨b,o+i*8+j,none⟩=some v:=by
 obtain⟨b,o,e,hl,hc⟩:=EE.hold h c;refine⟨b,o,e,hl,fun x a i hi=>?_⟩;obtain⟨vs,h1,h2⟩:=hc x a i hi;exact⟨vs,ShV.below a _ _ h1,h1.shape,h2⟩
def MI (w:A5)(T:StrP)(vs:List A0):Prop:=∃(q:Option Aa) (cap:Nat),vs=[.slice q T.sheets.length cap,.bool T.fin]/\T.sheets.length<=cap/\T.sheets.length<=maxLen/\HL w q T.sheets
theorem MI.below {w x:A5}(a:Below w.heap.size w x){T:StrP}{vs:List A0}(h:MI w T vs):MI x T vs:=by
 obtain⟨q,cap,h1,h2,h3,h4⟩:=h;exact⟨q,cap,h1,h2,h3,h4.below a⟩
instance:Inhabited ShP:=⟨GR⟩
section
variable {H:Type}{enc:TypeId×A0->H}{P:Program}
end
def ShK (L:List (Option Nat))(w:A5)(S:ShP)(vs:List A0):Prop:=∀x,Yah L w x->ShV x S vs
section
variable {L M L':List (Option Nat)}{w x:A5}{S:ShP}{vs:List A0}
theorem ShK.shV (h:ShK L w S vs):ShV w S vs:=h w (Yah.refl _ _)
theorem ShK.shape (h:ShK L w S vs):vs.length=8/\∀u∈vs,u.oneCell'=true:=h.shV.shape
theorem ShK.mono (h:ShK L w S vs)(a:∀j,j<w.heap.size->some j∈L'->some j∈L):ShK L' w S vs:=fun x b=>h x (b.mono a)
theorem ShK.keptL (h:ShK L w S vs)(hg:Yah M w x)(a:∀j,j<w.heap.size->some j∈M->some j∈L):ShK L x S vs:=fun z b=>h z ((hg.mono a).trans b fun _ _ hj=>hj)
theorem ShK.below (h:ShK L w S vs)(a:Below w.heap.size w x):ShK L x S vs:=h.keptL (M:=[]) (Yah.below a) sV
theorem ShK.low {n:Nat}(h:∀(z:A5) (K:List (Option Nat)),(∀j,some j∈K->j<n)->Yah K w z->ShV z S vs):ShK (E8 n) w S vs:=fun z a=>h z _ (fun _ hj=>IK.1 hj) a
def HQ (n:Nat)(w:A5)(v:A0)(l:List ShP):Prop:=AO 8 39 (ShK (v.ownBlock::E8 n) w) w n v l
theorem HQ.nil (n:Nat)(w:A5):HQ n w (.slice none 0 0) []:=AO.nil ..
theorem HQ.kept {n:Nat}{v:A0}{l:List ShP}(h:HQ n w v l)(hg:Yah M w x)(a:∀j,j<w.heap.size->some j∈M->j<n):HQ n x v l:=
 AO.mono (AO.keptL h hg fun k hk hm=>by have h1:=a k (AO.lt h k hk) hm;have h2:=AO.fresh h k hk;omega) fun _ _ hc=>
  hc.keptL hg fun j hj hm=>Ey _ (IK.2 (a j hj hm))
theorem HQ.app {n:Nat}{v a:A0}{l:List ShP}(h:AO 8 39 (ShK (v.ownBlock::E8 n) w) x n a l)(hg:w.grownBy x v.ownBlock)(b:∀k,a.ownBlock=some k->v.ownBlock=some k\/w.heap.size<=k):HQ n x a l:=by
 refine AO.mono h fun _ _ hc=>?_;have h1:ShK (a.ownBlock::v.ownBlock::E8 n) w _ _:=hc.mono fun j hj hm=>by
  rcases Ee.1 hm with e|hm
  ·rcases b j e.symm with h2|h2
   ·rw[h2];exact Ez ..
   ·omega
  ·exact hm
 have h2:=h1.keptL (M:=[v.ownBlock]) (Yah.one hg fun k _ e=>Wae) fun j _ hm=>Waj;refine fun z c=>h2 z (c.mono fun j _ hm=>?_);rcases Ee.1 hm with e|hm
 ·rw[e];exact Ez ..
 ·exact Ey _ (Ey _ hm)
theorem ShK.own {n N:Nat}{v:A0}{l:List ShP}(hl:AO 8 39 (ShK (v.ownBlock::E8 n) w) w n v l)(a:w.heap.size<=N)(hn:n<=N)(h:ShK (E8 N) x S vs):ShK (v.ownBlock::E8 n) x S vs:=
 h.mono fun j _ hm=>by
  rcases Ee.1 hm with e|hm
  ·exact IK.2 (Bc (AO.lt hl j e.symm) a)
  ·exact IK.2 (Bc (IK.1 hm) hn)
theorem HQ.ins {n:Nat}{v:A0}{l:List ShP}(h:HQ n w v l):v=.slice (slP v) l.length (slC v)/\(slP v=none->slC v=0)/\v.oneCell'=true/\HL w (slP v) l:=by
 obtain⟨a,b,ho⟩:=h;obtain⟨e1,e2,c⟩:=MZ ho;obtain⟨q,cap,e,hm⟩:=AO.many (V':=ShV) ⟨a,b,ho⟩ fun _ _ hc=>ShK.shV hc;exact⟨e1,e2,c,by rw[e];exact hm⟩
theorem nY {base c n:Nat}{e:TypeId}{v:A0}{b:List A0}(h:w.ownsRow base e c v n b):n<=slC v:=by
 rcases h.2 with ⟨rfl,hn⟩|⟨g,cap,d,rfl,_,hg,a,_⟩
 ·have:=h.1;simp[slC];omega
 ·exact a
theorem HQ.strV {n:Nat}{v:A0}{l:List ShP}(h:HQ n w v l)(hl:l.length<=maxLen)(f:Bool):MI w ⟨l,f⟩ [v,.bool f]:=by
 obtain⟨e1,e2,-,a⟩:=h.ins;obtain⟨b,c,ho⟩:=h;exact⟨slP v,slC v,by rw[<-e1],nY ho,hl,a⟩
end
theorem Xf:∃i z,prog.info? 39=some i/\i.zero=some z/\z.cells.size=8/\i.size=8/\i.bytes=96:=by
 have h:(prog.info? 39).map (fun i=>(i.zero.map (·.cells.size),i.size,i.bytes))=some (some 8,8,96):=tN;generalize prog.info? 39=x at h
 match x,h with
 |some i,h=>
  rw[Lo] at h;injection h with h;injection h with h1 h2;injection h2 with h2 h3;cases hz:i.zero with
  |none=>rw[hz] at h1;cases h1
  |some z=>
   rw[hz] at h1;injection h1 with h1;exact⟨i,z,rfl,hz,h1,h2,h3⟩
theorem YU (S:ShP):CA (BZ []) S = !S.hd.inter:=by unfold CA BZ;cases S.hd.inter <;> rfl
theorem fK {l:List ShP}(h:l.length-1<l.length)(S:ShP):CA (BZ l) S=(!S.hd.inter || l[l.length-1].hd.fmt==S.hd.fmt):=by
 unfold CA BZ;rw[List.getLast?_eq_getElem?,Fh h]
 rfl
theorem ShV.parts {w:A5}{S:ShP}{vs:List A0}(h:ShV w S vs):vs[2]? =some (.int .i64 S.hd.fmt)/\vs[3]? =some (.bool S.hd.inter)/\vs[7]? =some (.int .i64 S.zeros):=by
 obtain⟨p,b,ca,cb,rfl,-⟩:=h;exact⟨rfl,rfl,rfl⟩
set_option maxRecDepth 100000 in
theorem YJ {u w:A5}{S:ShP}{vs:List A0}(q:Option Aa)(cap:Nat)(l:List ShP)(p:ShV u S vs)(hl:HL w q l)(hm:l.length<=maxLen):
  A9 prog 21 #[.slice q l.length cap,.agg vs.toArray] w fun e v=>e=.returned (.bool (CA (BZ l) S))/\Below w.heap.size w v:=by
 unfold maxLen at hm;obtain⟨f2,f3,-⟩:=p.parts;rw[<-List.getElem?_toArray] at f2 f3;obtain⟨A,r⟩:=Ah vs.toArray;rw[r] at f2 f3 ⊢;have a:Below w.heap.size w (w.alloc (.cells A 39 (0,0))):=(Dn _ w).alloc (B9 _) _;have f:=Dm a;obtain⟨R,h⟩:=Ah (CA (BZ l) S);clear r p;by_cases i:0<l.length
 ·have hF:=fK (l:=l) sX S;obtain⟨b,o,rfl,j,hc⟩:=hl.at_ i;obtain⟨y,s,-,c⟩:=hc _ a (l.length-1) sX;have c2:=c 2 _ s.parts.1;obtain⟨E,t⟩:=Ah (l[l.length-1]);obtain⟨n,hn⟩:=Ah l.length;obtain⟨m,g⟩:=Ah (l.length-1);rw[t] at hF c2;rw[g] at c2;have x:IntKind.i64.wrap ((n:Int)-1)=(m:Int):=xR;have t1:decide ((m:Int)<(n:Int))=true:=sU;have t2:m<n:=sX;have t0:0<n:=sX;rw[h] at hF ⊢;rw[hn];have d:=a.drew;clear h t g hc s c hl a hm j i;generalize E.hd.fmt=f1 at *;generalize S.hd.inter=it at *;generalize S.hd.fmt=k at *;clear hn;cases it with
  |false=>
   have F:=Dm (show R=true by rw[hF];rfl);clear hF c2 x t1 t2 t0
   exact Wgj
  |true=>
   have F:=Dm (show R=(f1==k) by rw[hF];rfl);exact Wge
 ·obtain rfl:l=[]:=Dh sX;have hF:=YU S;rw[h] at hF ⊢;have d:=a.drew;clear h hl a hm i;generalize S.hd.inter=it at *;generalize S.hd.fmt=k at *;cases it with
  |false=>
   have F:=Dm (show R=true by rw[hF];rfl);clear hF
   exact Wgj
  |true=>
   have F:=Dm (show R=false by rw[hF];rfl);exact Wge
def N2 (l:List UInt8)(p:Nat):Bool:=(AM l p).2==0&&(AM l p).1==31
theorem ZE {l:List UInt8}{p:Nat}:N2 l p=true↔(AM l p).2=0/\(AM l p).1=31:=by unfold N2;simp
set_option maxRecDepth 100000 in
theorem eX {w:A5}{rb p:Nat}{s:ByteArray}(hr:AE w rb s p)(hs:s.size<=1099511627776):
  A9 prog 30 #[.pointer (some ⟨rb,0,none⟩)] w fun e i=>e=.returned (.bool (N2 s.data.toList p))/\Below w.heap.size w i:=by
 have g:=Vh w s (p:Int) hs;obtain⟨R,f⟩:=Ah (N2 s.data.toList p);have b:=f;unfold N2 at b;rw[f];generalize (AM s.data.toList (p:Int)).1=a at *;generalize (AM s.data.toList (p:Int)).2=c at *;have F:=Dm b;obtain⟨d1,h1⟩:=Ah (c==0);have h:=Dm h1;clear f b
 go_enter func30,ntmps30
 go_wp2_with fail
 refine(MH _ _ _ _ hr).mono ?_;rintro e u ⟨rfl,rfl⟩
 go_wp2_with fail
 refine(EF _ _ _ _ hr).mono ?_;rintro e u ⟨rfl,rfl⟩
 go_wp2_with fail
 refine g.mono ?_;rintro e j ⟨rfl,d⟩;clear g hr;cases d1 with
 |false=>
  go_wp2
  go_ret
  exact⟨AJ (by rw[<-F.out,h.out];rfl),d⟩
 |true=>
  go_wp2
  go_ret
  exact⟨AJ (by rw[<-F.out,h.out];rfl),d⟩
theorem bR {a b:ByteArray}(h:a≠b):(a.toList==b.toList)=false:=by
 rw[Fe];intro e;rw[Py,Py] at e;exact h (LO.2 e)
def MJ (r:List UInt8):List UInt8:=EH r 31++List.replicate (gap (EH r 31).length) 48
theorem gV:MJ []=DJ 31++[48,48]:=uB
theorem qN (l:List ShP):MJ (DD [] l)=CD l true:=nM l
theorem iN (r:List UInt8):(MJ r).length<=r.length+40:=by
 unfold MJ EH;simp only[B8,Bp,JG];unfold gap;omega
theorem WS {w:A5}{B b:Nat}{r:List UInt8}(h:AN w B b r)(hr:r.length<=549755813888)(i:B<=w.heap.size):
  A9 prog 39 #[.pointer (some ⟨b,0,none⟩)] w fun e j=>e=.returned (.tuple #[])/\AN j B b (MJ r)/\w.grownBy j (some b):=by
 have c1:=Vk w B b r 31 sY h sX i;have hl:(EH r 31).length<=r.length+30:=by
  unfold EH;simp only[B8,Bp,JG];unfold gap;omega
 have c2:=fun(x:A5) (k:AN x B b (EH r 31)) (l:B<=x.heap.size)=>TB x B b (EH r 31) k sX l;rw[show r++List.replicate (gap r.length) 48++DJ 31=EH r 31 from rfl] at c1;obtain⟨E,a⟩:=Ah (MJ r);rw[a];unfold MJ at a;rw[a] at c2;generalize EH r 31=R at *;have n:=Dm a;clear a h hl
 go_enter func39,ntmps39
 go_wp2_with fail
 refine c1.mono ?_;rintro e m ⟨rfl,c,d⟩;have c3:=c2 m c (Ef i d.size);clear c1 c2 c
 go_wp2_with fail
 refine c3.mono ?_;rintro e o ⟨rfl,f,g⟩
 go_wp2
 go_end0
 exact⟨rfl,f,AP d g⟩
theorem iO (w:A5):A9 prog 31 #[] w fun e p=>e=.returned (.string ⟨PY.toArray⟩)/\Below w.heap.size w p:=by
 obtain⟨D,g⟩:=Ah w.heap.size;obtain⟨h,a⟩:=Ah (w.alloc HD);have b:AN h (D+1) D []:=by rw[<-a];exact AN.fresh g (Oq _)
 have i:Below D w h:=by rw[<-a,<-g];exact(Dn _ w).alloc (B9 _) _
 have k:D+1<=h.heap.size:=by rw[<-a];simp;omega
 have c1:=WS b sV k;rw[gV] at c1;obtain⟨P,l⟩:∃P:ByteArray,⟨PY.toArray⟩=P:=⟨_,rfl⟩;have q:Hid ((⟨(FV (DJ 31++[48,48])).toArray⟩:ByteArray)=P):=Dm l;rw[l];have m:=Dm a;have o:=Dm g;clear l a g b
 go_enter func31,ntmps31
 go_wp2_with fail
 refine(Sd _).mono ?_;rintro e x ⟨rfl,rfl⟩;rw[m.out,o.out]
 go_wp2_with fail
 refine c1.mono ?_;rintro e r ⟨rfl,c,d⟩;have f:Below D w r:=i.grown d sX (fun j hj=>Wag)
 go_wp2_with fail
 refine(XO _ _ _ _ c sY).mono ?_;rintro e s ⟨rfl,n⟩;rw[q.out];have t:Below D w s:=f.trans (n.mono (by have:=f.size;have:=d.size;omega))
 go_wp2
 go_ret
 exact⟨rfl,by rw[o.out];exact t⟩
def aW (S:ShP):Prop:=S.rows.length<=4611686018427387904/\∀c∈FA S,∀k,k<6->(c.ev k).length<=1048576
def JD (u:A5)(T:StrP)(vs:List A0):Prop:=MI u T vs/\∀S∈T.sheets,aW S
theorem JD.below {u x:A5}{T:StrP}{vs:List A0}(h:JD u T vs)(a:Below u.heap.size u x):JD x T vs:=⟨h.1.below a,h.2⟩
theorem ShV.ones {w:A5}{S:ShP}{vs:List A0}(h:ShV w S vs):vs.toArray.all (·.oneCell')=true:=by
 rw[Gb];exact fun u a=>h.shape.2 u zL
theorem bP {ops:Array A4}{rest:List A4}{op:A4}{a:Act}{w:A5}{Q:Exit->Act->A5->Prop}(c:op.guard=none)(x:A8)(ho:op.op=.load 39 x)
  (b o:Nat)(d:a.eval x=.pointer (some ⟨b,o,none⟩))(vs:List A0)(hc:w.rangeAt b o vs)(hl:vs.length=8)(h:wpList prog ops Q rest (a.put op.dst (.agg vs.toArray)) w):wpList prog ops Q (op::rest) a w:=
 Iq c _ x ho b o d vs _ hc Oz rfl (by rw[hl];kernel_rfl) h
theorem Sb:∃Y:Array A0,Y.size=8/\∀w,(zeroValue 39).run prog w=.ok (.agg Y) w:=⟨#[.int .i64 0,.int .i64 0,.int .i64 0,.bool false,.int .i64 0,.slice none 0 0,.slice none 0 0,.int .i64 0],rfl,KL tN⟩
theorem HL.take {w:A5}{q:Option Aa}{l:List ShP}(h:HL w q l)(i:Nat):HL w q (l.take i):=by
 rcases h with rfl|⟨b,o,rfl,hl,hc⟩
 ·exact .inl sV
 ·refine .inr ⟨b,o,rfl,hl,fun j hj=>?_⟩;rw[Be] at hj;obtain⟨vs,h1,h2⟩:=hc j sX;exact⟨vs,by rw[Fo];exact h1,h2⟩
set_option maxRecDepth 100000 in
theorem rS {u w:A5}{T:StrP}{vs:List A0}(hT:JD u T vs)(ht:Ybt u.heap.size u)(hu:Below u.heap.size u w):
  A9 prog 10 #[.agg vs.toArray] w fun e w'=>e=.returned (.int .i64 (GI T))/\Below w.heap.size w w':=by
 obtain⟨⟨q,cap,rfl,a0,ab,ac⟩,ad⟩:=hT;obtain⟨l,F⟩:=T;dsimp only at *;unfold maxLen at ab;obtain⟨R,hR⟩:=Ah (GI ⟨l,F⟩);rw[hR];obtain⟨D,hD⟩:=Ah w.heap.size;obtain⟨G,g⟩:=Ah (w.alloc (.cells #[.slice q l.length cap,.bool F] 24 (0,0)));have j:Below w.heap.size w G:=by rw[<-g];exact(Dn _ w).alloc (B9 _) _
 have ae:G.heap.size=D+1:=by rw[<-g,<-hD];simp
 have K:G.heap[D]? =some (.cells [Value.slice q l.length cap,.bool F].toArray 24 (0,0)):=by rw[<-g,<-hD];exact heap_alloc_new w _
 have k0:=AA (o:=0) K rfl;have m:Hid (∀x,Below (D+1) G x->x.cell? ⟨D,0,none⟩=some (.slice q l.length cap)/\Below w.heap.size w x/\Below u.heap.size u x):=Dm fun x c=>
  ⟨AA (o:=0) ((c.block D sX).trans K) rfl,j.trans (c.mono sX),hu.trans ((j.trans (c.mono sX)).mono hu.size)⟩
 have L:Below (D+1) G G:=Dn _ _;have an:=Dm hR;have t:=Dm g;have ao:=Dm hD;have A:=Dm ae;have B:=Dm ac;have a3:=Dm ht;have ap:=Dm ad;clear hR g j ae K hD ac ad ht;by_cases b:l.length=0\/64<l.length
 ·have a1:=Dm (show R=12 by rw[<-an.out];unfold GI;exact Bb b);have H:=(m.out _ L).2.1;generalize l.length=n at *;by_cases h0:n=0
  ·subst h0;exact Wgd
  ·have t0:((n:Int)==0)=false:=uC;have t1:decide (64<(n:Int))=true:=sU;have t2:decide (64<n)=true:=sU;exact Wgd
 have M:=Dm (show R=DB none l by rw[<-an.out];unfold GI;exact Ba b);obtain⟨n,hn⟩:=Ah l.length;have a2:=Dm hn;rw[hn] at b ab m k0;have t0:((n:Int)==0)=false:=uC;have t1:decide (64<(n:Int))=false:=sU;have t2:decide (64<n)=false:=sU;obtain⟨Y,aq,a4⟩:=Sb;rw[hn] at t;rw[hn];clear hn an hu
 go_enter func10,ntmps10
 go_wp2_with (rw[t.out,ao.out])
 clear k0 t0 t1 t2
 go_loopw [19] (fun z wr=>∃i:Nat,i<=n/\z=.int .i64 (i:Int)/\Hid (DB none (l.take i)=0)/\Below (D+1) G wr) (fun z _=>n-(intOf z).toNat)
 case atStart=>exact⟨0,Do _,rfl,Dm rfl,L⟩
 case round=>
  clear L;obtain⟨i,hi,rfl,ha,hb⟩:=hrel;by_cases af:i<n
  ·have t0:decide ((i:Int)<(n:Int))=true:=sU;have t1:decide (i<n)=true:=by simpa using af
   have O:i<l.length:=by rw[a2.out];exact af
   obtain⟨-,ar,ag⟩:=m.out _ hb;obtain⟨P,Q,rfl,j,I⟩:=EE.each B.out sX;obtain⟨f,p,ah⟩:=I i O;have U:=p.shape.1;have au:=p.ones;have ai:=ap.out l[i] (Bl O);have aj:=mP O ha.out;obtain⟨C,hC⟩:=Ah wr.heap.size;obtain⟨d,r⟩:=Ah (wr.alloc (.cells f.toArray 39 (0,0)));have av:d.heap.size=C+1:=by rw[<-r,<-hC];simp
   have ak:Below wr.heap.size wr d:=by rw[<-r];exact(Dn _ wr).alloc (B9 _) _
   have J:wr.rangeAt P (Q+i*8) f:=fun k v hk=>ah wr ag k v hk;have V:d.heap[C]? =some (.cells f.toArray 39 (0,0)):=by rw[<-r,<-hC];exact heap_alloc_new wr _
   have a:=hb.trans (ak.mono (by have:=hb.size;have:=A.out;omega));have a5:D+1<=C:=by have h1:=hb.size;have h2:=A.out;omega
   have W:(prog.info? 39).map (·.size)=some f.toArray.size:=by rw[show f.toArray.size=8 from U];kernel_rfl
   have aw:Y.size=f.toArray.size:=by rw[aq];exact U.symm
   have c1:=fI (u:=u) (w:=d) (S:=l[i]) (vs:=f) ⟨p,ai⟩ a3.out (m.out _ a).2.2;have X:(l.take i).length=i:=tB;have aa:Hid (∀x,Below d.heap.size d x->x.cell? ⟨D,0,none⟩=some (.slice (some ⟨P,Q,none⟩) n cap)/\x.heap[C]? =some (.cells f.toArray 39 (0,0))/\Below (D+1) G x):=Dm fun x c=>
    ⟨(m.out x (a.trans (c.mono (by have:=a.size;have:=A.out;omega)))).1,(c.block C sX).trans V,a.trans (c.mono (by have:=a.size;have:=A.out;omega))⟩
   have a6:=Dm (fun(y:A5) (hy:Below d.heap.size d y)=>(by
    have h:=YJ (w:=y) (some ⟨P,Q,none⟩) cap (l.take i) p ((HL.below B.out (m.out y (aa.out y hy).2.2).2.2).take i) (by rw[X];unfold maxLen;omega);rw[X] at h;exact h.mono fun e z k=>⟨k.1,hy.trans (k.2.mono hy.size)⟩:A9 prog 21 #[.slice (some ⟨P,Q,none⟩) i cap,.agg f.toArray] y fun e z=>e=.returned (.bool (CA (BZ (l.take i)) l[i]))/\Below d.heap.size d z))
   have ax:=Dm (fun x (c:Below d.heap.size d x)=>(aa.out x c).2.1);have ay:i<=cap:=sX;have tc:decide (i<=cap)=true:=by simpa using ay
   have s:=Qh7 (l:=l) (i:=i+1);generalize CA (BZ (l.take i)) l[i]=fo at *;generalize DG l[i]=er at *;have Z:=Dm aj;have al:=Dm s;have az:=Dm r;have a7:=Dm hC;clear r hC av ak ah ha aj s X p ai ar ag hb j I a
   go_wp2_with (first|(with_reducible refine bP rfl _ rfl P (Q+i*8) rfl f J U ?_)|(with_reducible refine BL rfl 39 _ _ rfl f.toArray Y 39 rfl rfl W aw au ?_;rw[az.out,a7.out])|(with_reducible refine Nb rfl 39 _ rfl C rfl 39 f.toArray (0,0) _ V Oz rfl W ?_))
   refine c1.mono ?_;rintro e w2 ⟨rfl,E⟩;clear J V c1;by_cases he:er=0
   case neg=>
    have tn:(er != 0)=true:=by rw[Fj];exact he
    have N:=Dm (show R=er by
     have h1:=Z.out;rw[Bb he] at h1;have h2:=al.out (by rw[h1];exact he);rw[M.out,h2,h1])
    have H:=(m.out _ (aa.out _ E).2.2).2.1;clear he
    go_wp2
    go_ret
    exact⟨vG,H⟩
   subst he;have tn:((0:Int) != 0)=false:=rfl;have k0:=(aa.out _ E).1
   go_wp2
   refine E1 (S:=fun x=>Below d.heap.size d x) 7 tN tN E.drew ?_;simp only[Dq,Bk,Gp,Gq];refine AQ ?_;simp only[A1];refine B4 22 _ ⟨D,0,none⟩ (.slice (some ⟨P,Q,none⟩) n cap) tN rfl rfl (fun x c=>by have c0:=(aa.out x c).1;go_simp) ?_;simp only[A1];refine AQ ?_;simp only[A1];refine B1 (v:=.slice (some ⟨P,Q,none⟩) i cap) tN (fun x _=>zH) ?_;simp only[A1];refine NG 39 _ C 39 f.toArray (0,0) _ tN rfl rfl (fun x c=>ax.out x c) Oz rfl W ?_;simp only[A1];refine C2 tN a6.out (fun _=>tN) ?_;simp only[A1];refine AQ ?_;simp only[A1];refine DX fun x c=>?_;clear k0 E;have am:=(aa.out _ c).2.2;cases fo with
   |false=>
    have N:=Dm (show R=11 by
     have h1:=Z.out;rw[Ba sY,Bb rfl] at h1;have h2:=al.out (by rw[h1];decide);rw[M.out,h2,h1])
    have H:=(m.out _ am).2.1
    go_wp2
    go_ret
    exact⟨vG,H⟩
   |true=>
    have N:=Dm (show DB none (l.take (i+1))=0 by
     have h1:=Z.out;rw[Ba sY,Ba sY] at h1;exact h1)
    go_wp2
    go_roundw
    case rel=>exact⟨i+1,sX,tP,N,am⟩
    case measure=>simp[intOf];omega
  ·obtain rfl:i=n:=sX;have t0:decide ((i:Int)<(i:Int))=false:=sV;have t1:decide (i<i)=false:=sV;have N:=Dm (show R=0 by
    have h:=ha.out;rw[Bh (by have:=a2.out;omega)] at h;rw[M.out,h])
   have H:=(m.out _ hb).2.1
   go_wp2
   go_ret
   exact⟨vG,H⟩
theorem kU (n m:Nat)(w:A5)(hn:n<=1099511627776):A9 prog 160 #[.int .i64 (n:Int),.int .i64 (m:Int)] w fun e c=>e=.returned (.int .i64 (N1 n m:Int))/\w=c:=by
 by_cases h1:n=m
 ·have d1:((n:Int)==(m:Int))=true:=by simp[h1]
  have e1:N1 n m=n / 8:=Bb h1;have a:=Dm e1;have d:(n:Int).tdiv 8=((n / 8:Nat):Int):=Wbk;have f:IntKind.i64.wrap ((n / 8:Nat):Int)=((n / 8:Nat):Int):=CE sX;generalize n / 8=u at *;clear h1 e1
  exact Wgi
 ·have d1:((n:Int)==(m:Int))=false:=sU;by_cases h2:n%8=0/\16<=n
  ·have e1:N1 n m=(n-16) / 8:=by unfold N1;rw[Ba h1,Bb h2]
   have a:=Dm e1;have g:(n:Int).tmod 8=0:=by rw[Ik (by omega)];omega
   have d2:decide ((n:Int)>=16)=true:=sU;have h:IntKind.i64.wrap ((n:Int)-16)=((n-16:Nat):Int):=xR;have d:((n-16:Nat):Int).tdiv 8=(((n-16) / 8:Nat):Int):=Wbk;have f:IntKind.i64.wrap (((n-16) / 8:Nat):Int)=(((n-16) / 8:Nat):Int):=CE sX;generalize (n-16) / 8=u at *;generalize n-16=v at *;clear h1 h2 e1
   exact Wgi
  ·have e1:N1 n m=0:=by unfold N1;rw[Ba h1,Ba h2]
   have a:=Dm e1;by_cases h3:n%8=0
   ·have g:(n:Int).tmod 8=0:=by rw[Ik (by omega)];omega
    have d2:decide ((n:Int)>=16)=false:=sU;clear h1 h2 h3 e1
    exact Wgk
   ·obtain⟨r,hr⟩:=Ah ((n:Int).tmod 8);have b:r≠0:=by rw[<-hr,Ik (by omega)];omega
    have d2:(r==0)=false:=by simpa using b
    clear h1 h2 h3 e1 b
    exact Wgk
theorem Y5x (c:Cel)(sl:Nat->A0)(w:A5):A9 prog 179 #[.agg (AD c sl).toArray] w fun e l=>e=.returned (.bool (!AG c.kind))/\Below w.heap.size w l:=by
 obtain⟨A,f⟩:=Ah w.heap.size;obtain⟨h,a⟩:=Ah (w.alloc (.cells (AD c sl).toArray 77 (0,0)));have d:Below w.heap.size w h:=by rw[<-a];exact(Dn _ w).alloc (B9 _) _
 have hk:h.cell? ⟨A,2,none⟩=some (.int .i64 c.kind):=by rw[<-a,<-f];exact AA (heap_alloc_new w _) rfl
 have b:=Dm a;have i:=Dm f;obtain⟨Z,j⟩:=Ah ((AD c sl).toArray);rw[j] at b ⊢;generalize c.kind=k at *;clear a f j;by_cases h3:k=3
 ·have e1:AG k=true:=by rw[h3];rfl
  have g:=Dm e1;have d1:(k != 3)=false:=by simp[h3]
  exact Wgf
 ·have d1:(k != 3)=true:=by simp[h3]
  have e1:(!AG k)=(k != 4):=by unfold AG;rw[Fe.2 h3];rfl
  have g:=Dm e1;exact Wgf
section
variable {w:A5}{G rb p:Nat}{s:ByteArray}{k:Int}{inter:Bool}{vv:A0}{vs:List (Int×Int)}{first:Int}
theorem pC (h:Ydb w G rb s p k inter vv vs first)(hs:s.size<=1073741824):A9 prog 176 #[.pointer (some ⟨G,0,none⟩)] w fun e r=>e=.returned (.bool ((BA s.data.toList p).2&&((BA s.data.toList p).1 != 0&&(BA s.data.toList p).1 != 31)))/\Below w.heap.size w r:=by
 have i:=fun(x y:A5) (a:Below w.heap.size w x) (t:Below x.heap.size x y)=>(a.trans (t.mono a.size):Below w.heap.size w y);have d:=Dm (fun(x:A5) (a:Below w.heap.size w x)=>(h.below a).cell (o:=0) rfl);have j:=Dm (fun(x:A5) (a:Below w.heap.size w x)=>(MH x rb s p (h.below a).rd).mono fun e y (q:e=.returned (.string s)/\x=y)=>(⟨q.1,q.2▸a⟩:e=.returned (.string s)/\Below w.heap.size w y));have l:=Dm (fun(x:A5) (a:Below w.heap.size w x)=>(EF x rb s p (h.below a).rd).mono fun e y (q:e=.returned (.int .i64 (p:Int))/\x=y)=>(⟨q.1,q.2▸a⟩:e=.returned (.int .i64 (p:Int))/\Below w.heap.size w y));have f:=fun(x:A5)=>aB x s (p:Int) sX;obtain⟨⟨m,g⟩,hm⟩:=Ah (BA s.data.toList (p:Int));rw[hm] at f ⊢;have n:=Dm (fun(x:A5) (a:Below w.heap.size w x)=>(f x).mono fun e y q=>(⟨q.1,i x y a q.2⟩:e=.returned (.tuple #[.int .i64 m,.bool g])/\Below w.heap.size w y));clear i f hm h hs;dsimp only;have b:=Dn w.heap.size w
 go_enter func176,ntmps176
 go_wp2
 refine E1 (S:=fun x=>Below w.heap.size w x) 16 tN tN b.drew ?_;simp only[Dq,Bk,Gp,Gq]
 iterate 3 (refine AQ ?_;simp only[A1])
 refine B4 54 _ ⟨G,0,none⟩ (.pointer (some ⟨rb,0,none⟩)) tN rfl rfl (fun x a=>by have c0:=d.out x a;go_simp) ?_;simp only[A1];refine C2 tN j.out (fun _=>tN) ?_;simp only[A1]
 iterate 3 (refine AQ ?_;simp only[A1])
 refine B4 54 _ ⟨G,0,none⟩ (.pointer (some ⟨rb,0,none⟩)) tN rfl rfl (fun x a=>by have c0:=d.out x a;go_simp) ?_;simp only[A1];refine C2 tN l.out (fun _=>tN) ?_;simp only[A1];refine C2 tN n.out (fun _=>tN) ?_;simp only[A1]
 iterate 5 (refine AQ ?_;simp only[A1])
 refine DX fun x a=>?_;clear d j l n b;cases g with
 |false=>
  go_wp2
  go_ret
  exact⟨rfl,a⟩
 |true=>
  by_cases c:m=0
  ·have d1:(m != 0)=false:=by simp[c]
   clear c
   go_wp2
   go_ret
   exact⟨by rw[d1];rfl,a⟩
  ·have d1:(m != 0)=true:=by simp[c]
   clear c
   go_wp2
   go_ret
   exact⟨by rw[d1];rfl,a⟩
theorem Ydb.ptr (h:Ydb w G rb s p k inter vv vs first):w.cell? ⟨G,0,none⟩=some (.pointer (some ⟨rb,0,none⟩)):=h.cell rfl
def Ru (l:List UInt8)(p:Nat):Int:=if AB l p (gap p)=0 then 0 else 5
theorem Y4d (h:Ydb w G rb s p k inter vv vs first)(hs:s.size<=1073741824):A9 prog 129 #[.pointer (some ⟨G,0,none⟩)] w fun e M=>
  ∃n:Nat,e=.returned (.tuple #[.int .i64 (n:Int),.int .i64 (Ru s.data.toList p)])/\w.grownBy M (some rb)/\(∃q,AE M rb s q)/\(Ru s.data.toList p=0->n=FQ s.data.toList (p+gap p)/\AE M rb s (p+gap p+8*n)):=by
 have i:s.data.toList.length=s.size:=rfl;have Y:=h.rd.2.1;have Z:=h.cell (o:=0) rfl;have C:=VZ w rb s p h.rd;by_cases A:AB s.data.toList p (gap p)=0
 case neg=>
  have e1:Ru s.data.toList p=5:=Ba A;have e2:JU s.data.toList p=(0,5):=Ba A;have D:MY s.data.toList p=p:=Ba A;rw[e2,D] at C;have N:=Dm e1;clear e1 e2 D i h
  go_enter func129,ntmps129
  go_wp2_with fail
  refine C.mono ?_;rintro e a ⟨rfl,j,f⟩
  go_wp2
  go_ret2
  rw[N.out];exact⟨0,rfl,f,⟨p,j⟩,fun h=>uA⟩
 case pos=>
  have e1:Ru s.data.toList p=0:=Bb A;have e2:JU s.data.toList p=(((gap p:Nat):Int),0):=Bb A;have D:MY s.data.toList p=p+gap p:=Bb A;rw[e2,D] at C;have O:=S1 Y;obtain⟨q,L⟩:=Ah (p+gap p);have P:q%8=0:=by rw[<-L];unfold gap;omega
  have d:=jC (l:=s.data.toList) (p:=q) sX P;have E:=VX (l:=s.data.toList) (p:=q) sX;have m:=(Vo (l:=s.data.toList) (p:=q) sX).2.1;rw[AZ,i] at m;rw[L] at C ⊢;obtain⟨n,hn⟩:=Ah (FQ s.data.toList q);obtain⟨u,Q⟩:=Ah (CK s.data.toList (q:Int));rw[hn] at m d ⊢;rw[Q] at E d;rw[i] at E d;rw[L] at O;have c2:=fun(x:A5)=>Qdd x s (q:Int) sX;rw[Q] at c2;have N:=Dm e1;have ah:=Dm d;clear e1 e2 D i hn Q L A
  go_enter func129,ntmps129
  go_wp2_with fail
  refine C.mono ?_;rintro e a ⟨rfl,j,f⟩;have h1:=h.reads f j;clear C Z;have R:=fun(x y:A5) (b:Below a.heap.size a x) (hy:Below x.heap.size x y)=>(b.trans (hy.mono b.size):Below a.heap.size a y);have T:=Dm (fun(x:A5) (b:Below a.heap.size a x)=>(h1.below b).cell (o:=0) rfl);have aa:=Dm (fun(x:A5) (b:Below a.heap.size a x)=>(MH x rb s q (h1.below b).rd).mono fun e y (z:e=.returned (.string s)/\x=y)=>(⟨z.1,z.2▸b⟩:e=.returned (.string s)/\Below a.heap.size a y));have ab:=Dm (fun(x:A5) (b:Below a.heap.size a x)=>(EF x rb s q (h1.below b).rd).mono fun e y (z:e=.returned (.int .i64 (q:Int))/\x=y)=>(⟨z.1,z.2▸b⟩:e=.returned (.int .i64 (q:Int))/\Below a.heap.size a y));have ac:=Dm (fun(x:A5) (b:Below a.heap.size a x)=>(c2 x).mono fun e y z=>(⟨z.1,R x y b z.2⟩:e=.returned (.int .i64 (u:Int))/\Below a.heap.size a y));have ad:=Dm (fun(x:A5) (b:Below a.heap.size a x)=>(Rf x rb s q (h1.below b).rd).mono fun e y z=>(⟨by rw[z.1,show (8*(s.size:Int)-(q:Int))=((8*s.size-q:Nat):Int) by omega],R x y b z.2⟩:e=.returned (.int .i64 ((8*s.size-q:Nat):Int))/\Below a.heap.size a y));have ae:=Dm (fun(x:A5) (b:Below a.heap.size a x)=>(kU u (8*s.size-q) x sX).mono fun e y z=>(⟨by rw[z.1,<-d],z.2▸b⟩:e=.returned (.int .i64 (n:Int))/\Below a.heap.size a y));have U:=Dn a.heap.size a;have af:=Dm h1;have ag:=Dm f;clear R c2 j h d h1 f;generalize 8*s.size-q=left at *
  go_wp2
  refine E1 (S:=fun x=>Below a.heap.size a x) 18 tN tN U.drew ?_;simp only[Dq,Bk,Gp,Gq]
  iterate 3 (refine AQ ?_;simp only[A1])
  refine B4 54 _ ⟨G,0,none⟩ (.pointer (some ⟨rb,0,none⟩)) tN rfl rfl (fun x b=>Wbp) ?_;simp only[A1];refine C2 tN aa.out (fun _=>tN) ?_;simp only[A1]
  iterate 3 (refine AQ ?_;simp only[A1])
  refine B4 54 _ ⟨G,0,none⟩ (.pointer (some ⟨rb,0,none⟩)) tN rfl rfl (fun x b=>Wbp) ?_;simp only[A1];refine C2 tN ab.out (fun _=>tN) ?_;simp only[A1];refine C2 tN ac.out (fun _=>tN) ?_;simp only[A1]
  iterate 3 (refine AQ ?_;simp only[A1])
  refine B4 54 _ ⟨G,0,none⟩ (.pointer (some ⟨rb,0,none⟩)) tN rfl rfl (fun x b=>Wbp) ?_;simp only[A1];refine C2 tN ad.out (fun _=>tN) ?_;simp only[A1];refine C2 tN ae.out (fun _=>tN) ?_;simp only[A1];refine AQ ?_;simp only[A1];refine DX fun x b=>?_
  go_wp2
  have w8:IntKind.i64.wrap (8*(n:Int))=((8*n:Nat):Int):=xR;have wq:IntKind.i64.wrap ((q:Int)+((8*n:Nat):Int))=((q+8*n:Nat):Int):=xR;have F:=m;obtain⟨W,B⟩:=Ah (8*n);rw[B] at w8 wq F;have V:=Dm B;clear B m;have H:=b.drew;have r:=af.out.below H;have X:=r.cell (o:=0) rfl;refine Oa (S:=fun x=>x.cell? ⟨G,0,none⟩=some (.pointer (some ⟨rb,0,none⟩))) tN X (fun c=>?_);refine AC 0 (some 35) c ?_
  try simp only[A1]
  refine AC 1 (some 36) c ?_
  try simp only[A1]
  refine AC 2 (some 37) c ?_
  try simp only[A1]
  refine AC 3 (some 38) c ?_
  try simp only[A1]
  refine B2 4 (some 39) (v:=.pointer (some ⟨rb,0,none⟩)) rfl rfl c tN (fun x b=>Wbc) ?_
  try simp only[A1]
  refine AC 5 (some 40) c ?_
  try simp only[A1]
  refine AC 6 (some 41) c ?_
  try simp only[A1]
  refine AC 7 (some 42) c ?_
  try simp only[A1]
  refine B2 8 (some 43) (v:=.pointer (some ⟨rb,0,none⟩)) rfl rfl c tN (fun x b=>Wbc) ?_
  try simp only[A1]
  refine AC 10 (some 45) c ?_
  try simp only[A1]
  refine AC 11 (some 46) c ?_
  try simp only[A1]
  refine O8 (rs:=[9]) tN sV ?_;refine O6 rfl (fun K I=>?_) O7
  go_simp
  go_wp2_with fail
  refine(EF _ _ _ _ r.rd).mono ?_;rintro e u ⟨rfl,rfl⟩;refine I.out _ _ (X) (fun g=>?_);clear I K c;have c:=g;clear g
  try simp only[A1]
  refine AC 12 (some 47) c ?_
  try simp only[A1]
  refine O8 (rs:=[13]) tN sV ?_;refine O6 rfl (fun K I=>?_) O7
  go_simp
  go_wp2_with fail
  refine(GQ _ _ _ _ _ r.rd sX sX).mono ?_;rintro e w3 ⟨rfl,t,J⟩;have k3:=Ydb.ptr (r.reads J t);refine I.out _ _ (k3) (fun g=>?_);clear I K c;have c:=g;clear g
  try simp only[A1]
  refine AC 14 (some 2) c ?_
  try simp only[A1]
  refine AC 15 (some 3) c ?_
  try simp only[A1]
  refine Ob tN ?_ _;rw[show ((q:Int)+(W:Int)).toNat=q+W by omega] at t
  go_wp2
  go_ret2
  rw[N.out];exact⟨n,rfl,AP (AP ag.out (BF H _)) J,⟨_,t⟩,fun _=>⟨rfl,by rw[V.out];exact t⟩⟩
end
theorem Ydb.put {w z:A5}{G rb p A:Nat}{s:ByteArray}{k:Int}{inter:Bool}{vv:A0}{vs:List (Int×Int)}{first:Int}(h:Ydb w G rb s p k inter vv vs first)(hg:w.grownBy z (some A))(a:G≠A/\rb≠A/\∀j,vv.ownBlock=some j->j≠A):Ydb z G rb s p k inter vv vs first:=
 h.keptL (M:=[some A]) (Yah.one hg fun j _ e=>Wae) (fun hm=>Waf) (fun hm=>Waf)
  fun j hj hm=>by have e:=Df.1 hm;injection e with e;have:=a.2.2 j hj;omega
theorem aE {G rb A:Nat}{vv:A0}(h:G<A/\rb<A/\∀j,vv.ownBlock=some j->j<A):G≠A/\rb≠A/\∀j,vv.ownBlock=some j->j≠A:=⟨sX,sX,fun j hj=>by have:=h.2.2 j hj;omega⟩
theorem Y4w (rb:Nat)(hd:Shd)(a b:A0)(z:Int)(w:A5):A9 prog 127 #[.pointer (some ⟨rb,0,none⟩),.agg (AU hd a b z).toArray] w fun e v=>
  e=.returned (.pointer (some ⟨w.heap.size+1,0,none⟩))/\v.heap[w.heap.size+1]? =some (.cells (O3 rb hd.fmt hd.inter (.slice none 0 0) 0).toArray 157 (0,0))/\Below w.heap.size w v:=by
 obtain⟨A,j⟩:=Ah w.heap.size;obtain⟨Z,n⟩:=Ah ((AU hd a b z).toArray);obtain⟨d,c⟩:=Ah (w.alloc (.cells Z 39 (0,0)));have g:d.heap[A]? =some (.cells (AU hd a b z).toArray 39 (0,0)):=by rw[n,<-c,<-j];exact heap_alloc_new w _
 have h:Below w.heap.size w d:=by rw[<-c];exact(Dn _ w).alloc (B9 _) _
 have i:d.heap.size=A+1:=by rw[<-c,<-j];simp
 have B:d.cell? ⟨A,2,none⟩=some (.int .i64 hd.fmt):=AA g rfl;have C:d.cell? ⟨A,3,none⟩=some (.bool hd.inter):=AA g rfl;have c1:=fun w=>SP hd.fmt w;have c2:=fun w=>QO hd.fmt w;obtain⟨R,o⟩:=Ah ((O3 rb hd.fmt hd.inter (.slice none 0 0) 0).toArray);have l:#[.pointer (some ⟨rb,0,none⟩),.int .i64 hd.fmt,.int .i64 (BE hd.fmt),.int .i64 (BQ hd.fmt),.int .i64 (AY hd.fmt),.bool hd.inter,.slice none 0 0,.int .i64 0]=R:=o;obtain⟨x,f⟩:=Ah (d.alloc (.cells R 157 (0,0)));have p:x.heap[A+1]? =some (.cells R 157 (0,0)):=by rw[<-f,<-i];exact heap_alloc_new d _
 have m:Below w.heap.size w x:=by rw[<-f];exact h.alloc h.size _
 have q:=Dm c;have y:=Dm j;have r:=Dm l;have s:=Dm f;have t:=Dm i;rw[n,o,j];rw[j] at m;generalize hd.fmt=k at *;generalize hd.inter=inter at *;generalize BE k=f1 at *;generalize BQ k=f2 at *;generalize AY k=f3 at *;clear c j g h i f n o l
 go_enter func127,ntmps127
 go_wp2_with (rw[q.out,y.out])
 refine(c1 d).mono ?_;rintro e u ⟨rfl,rfl⟩
 go_wp2_with fail
 refine(c2 d).mono ?_;rintro e u ⟨rfl,rfl⟩
 go_wp2_with (with_reducible refine Pw rfl 157 _ rfl (some 29) rfl #[.pointer (some ⟨rb,0,none⟩),.int .i64 k,.int .i64 f1,.int .i64 f2,.int .i64 f3,.bool inter,.slice none 0 0,.int .i64 0] tN ?_;rw[r.out])
 rw[s.out,t.out]
 go_ret
 exact⟨rfl,p,m⟩
def X4 (s:ByteArray)(G rb p:Nat)(k:Int)(inter:Bool)(vv:A0)(vs:List (Int×Int))(first:Int)(i:Nat)(w:A5)(e:Ae)(a:A5):Prop:=
 ∃(b:Bool) (id qu:Int) (z:Nat) (fs f:Int),F2 s.data.toList k i p first=(b,id,qu,z,fs,f)/\e=.returned (.tuple #[.agg [Value.bool b,.int .i64 id,.int .i64 qu,.slice none 0 0].toArray,.int .i64 f])/\
  Ydb a G rb s z k inter vv vs fs/\Yah [some rb,some G] w a
theorem mE {w:A5}{G rb p:Nat}{s:ByteArray}{k:Int}{inter:Bool}{vv:A0}{vs:List (Int×Int)}{first:Int}(i:Nat)(h:Ydb w G rb s p k inter vv vs first)(hs:s.size<=1073741824)(hi:i<=1000):
  A9 prog 157 #[.pointer (some ⟨G,0,none⟩),.int .i64 (i:Int)] w (X4 s G rb p k inter vv vs first i w):=by
 have ab:=To;obtain⟨Y,B⟩:∃Y:Array A0,[Value.bool false,.int .i64 0,.int .i64 0,.slice none 0 0].toArray=Y:=⟨_,rfl⟩;rw[B] at ab;obtain⟨A,K⟩:=Ah w.heap.size;obtain⟨y,b⟩:=Ah (w.alloc (.cells Y 46 (0,0)));have C:y.heap[A]? =some (.cells Y 46 (0,0)):=by rw[<-b,<-K];exact heap_alloc_new w _
 have m:Below w.heap.size w y:=by rw[<-b];exact(Dn _ w).alloc (B9 _) _
 have c:y.heap.size=A+1:=by rw[<-b,<-K];simp
 have n:G<A/\rb<A/\∀j,vv.ownBlock=some j->j<A:=by rw[<-K];exact h.lt
 have al:=n.1;have am:=n.2.1;have d:=h.below m;have D:(prog.info? 46).map (·.size)=some Y.size:=by rw[<-B];kernel_rfl
 have Q:Y.all (·.oneCell')=true:=by rw[<-B];simp[Value.oneCell']
 have R:Yah [some rb,some G] w y:=Yah.below m;have O:=Dm b;have X:=Dm K;have ay:=Dm B;have q:Hid (HI s.data.toList i p=false->∀I w',Below (A+1) y I->I.grownBy w' (some A)->X4 s G rb p k inter vv vs first i w (.returned (.tuple #[.agg Y,.int .i64 0])) w'):=Dm fun hn I w' a hg=>by
  have J:Below y.heap.size y I:=by rw[c];exact a
  have e1:F2 s.data.toList k i p first=(false,0,0,p,first,0):=by unfold F2;rw[Ba (by rw[hn];decide)]
  refine⟨false,0,0,p,first,0,e1,by rw[B],(d.below J).put hg (aE n),?_⟩;refine(R.trans (Yah.below (L:=[]) J) sV).trans (M:=[some A]) (Yah.one hg fun j _ e=>Wae) fun j hj hm=>?_;have e:=Df.1 hm;exact Wga
 by_cases g:i=0
 ·have d0:((i:Int)==0)=true:=by simp[g]
  have N:=Dm (q.out (by unfold HI;rw[g];rfl) y);have ac:Below (A+1) y y:=Dn _ _;clear g hi q b K B d R c m n
  go_enter func157,ntmps157
  go_wp2_with (first|(with_reducible refine AK rfl 46 _ _ rfl A Y Y rfl rfl 46 C D rfl Q ?_;intro wz r l)|(rw[O.out,X.out]))
  refine Hb (C0 rfl _ _ A 46 _ (0,0) _ rfl r Ip rfl D) rfl ?_;exact N.out wz ac l
 have d0:((i:Int)==0)=false:=by simp[g]
 have ca:=pC d hs;rw[c] at ca;have S:HI s.data.toList i p=((BA s.data.toList p).2&&((BA s.data.toList p).1 != 0&&(BA s.data.toList p).1 != 31)):=by unfold HI;rw[Gm (by omega:0<i),Gs]
 rw[<-S] at ca;clear S;cases hh:HI s.data.toList i p with
 |false=>
  rw[hh] at ca;have N:=Dm (q.out hh);clear g hi q b K B d R c m hh
  go_enter func157,ntmps157
  go_wp2_with fail
  rw[O.out,X.out];refine ca.mono ?_;rintro e I ⟨rfl,a⟩;have E:=(a.block A sX).trans C
  go_wp2_with (with_reducible refine AK rfl 46 _ _ rfl A Y Y rfl rfl 46 E D rfl Q ?_;intro wz r l)
  refine Hb (C0 rfl _ _ A 46 _ (0,0) _ rfl r Ip rfl D) rfl ?_;exact N.out I wz a l
 |true=>
  rw[hh] at ca;have e1:F2 s.data.toList k i p first=(true,(hdk s.data.toList p i).1,(hdk s.data.toList p i).2.1,(hdk s.data.toList p i).2.2.1,(i:Int)*BQ k,(hdk s.data.toList p i).2.2.2):=by unfold F2;rw[Bb (by rw[hh])]
  have ct:=fun x (hx:AE x rb s p)=>qX x rb s p (i:Int) hx sX;unfold U4 at ct;obtain⟨⟨id,qu,z,f⟩,hk⟩:=Ah (hdk s.data.toList p (i:Int));rw[hk] at ct e1;dsimp only at ct e1;obtain⟨an,ao,ad,ak,ap⟩:=OU k;have wm:IntKind.i64.wrap ((i:Int)*BQ k)=(i:Int)*BQ k:=by
   have h1:0<=(i:Int)*BQ k:=Lj sX ad;have h2:(i:Int)*BQ k<=1000*100:=Int.mul_le_mul sX ak ad sX;exact CE sX
  obtain⟨fs,F⟩:=Ah ((i:Int)*BQ k);have az:=Dm F;rw[F] at wm e1;have aq:=Dm e1;obtain⟨aa,t⟩:∃Z:Array A0,#[.bool true,.int .i64 id,.int .i64 qu,.slice none 0 0]=Z:=⟨_,rfl⟩;have T:(prog.info? 46).map (·.size)=some aa.size:=by rw[<-t];kernel_rfl
  have ae:Y.size=aa.size:=by rw[<-B,<-t];rfl
  have af:aa.all (·.oneCell')=true:=by rw[<-t];simp[Value.oneCell']
  have U:=Dm t;have ar:=Dm R;obtain⟨fl,P⟩:=Ah (BQ k);have au:IntKind.i64.wrap ((i:Int)*fl)=fs:=by rw[<-P,F];exact wm
  have ag:=Dm P;clear g hi q b K B m hh hk e1 t R an ao ad ak ap F wm P
  go_enter func157,ntmps157
  go_wp2_with fail
  rw[O.out,X.out];refine ca.mono ?_;rintro e I ⟨rfl,a⟩;have H:=d.below (by rw[c];exact a);have E:=(a.block A sX).trans C;have av:=a.size;have g2:=Dm (ar.out.trans (Yah.below (L:=[]) (by rw[c];exact a)) sV);have k0:=H.cell (o:=0) rfl;have V:=ct I H.rd;clear ca a C d ct
  go_wp2_with fail
  refine V.mono ?_;rintro e w3 ⟨rfl,W,u⟩;have v:=H.reads u W;have ah:=(u.block A sX sU).trans E;have k3:=v.cell (o:=3) rfl;rw[ag.out] at k3;have k7:=v.cell (o:=7) rfl;have f7:=AL (o:=7) v.blk;have g3:=Dm (g2.out.trans (M:=[some rb]) (L:=[some rb,some G]) (Yah.one u fun j _ e=>Wae) fun j _ hm=>Wai);have aw:=u.size;clear V W u H E k0;have ai:=Dm (v.lines (first':=fs));have aj:(w3.setCell ⟨G,7,none⟩ (.int .i64 fs)).heap[A]? =some (.cells Y 46 (0,0)):=by rw[Ib _ _ _ _ (show A≠G by omega)];exact ah
  have g4:=Dm (g3.out.trans (M:=[some G]) (z:=w3.setCell ⟨G,7,none⟩ (.int .i64 fs)) (Yah.set _ (Df.2 rfl)) fun j _ hm=>Wap);have ax:(w3.setCell ⟨G,7,none⟩ (.int .i64 fs)).heap.size=w3.heap.size:=sV;clear v
  go_wp2_with (first|(with_reducible refine Pw rfl 46 _ rfl (some 38) rfl #[.bool true,.int .i64 id,.int .i64 qu,.slice none 0 0] tN ?_;rw[U.out])|(with_reducible refine AK rfl 46 _ _ rfl A aa Y rfl rfl 46 aj T ae af ?_;intro wz r l))
  refine Hb (C0 rfl _ _ A 46 _ (0,0) _ rfl r Ip rfl T) rfl ?_;refine⟨true,id,qu,z,fs,f,aq.out,by rw[<-U.out];rfl,ai.out.put l (aE n),?_⟩;refine g4.out.trans (M:=[some A]) (Yah.one l fun j _ e=>Wae) fun j hj hm=>?_;have e:=Df.1 hm;injection e with e;have:=X.out;omega
theorem Z4 {inter:Bool}{c:Cel}(h:CC inter c=true):(-32<=c.mx/\c.mx<=31)∧-32<=c.my/\c.my<=31:=by
 unfold CC at h;rw[Al] at h;have h:=h.2;by_cases hs:c.skip=true
 ·rw[Bb hs,Al] at h;have h:=h.2;unfold JY at h;simp only[Al,Bj] at h;obtain⟨⟨-,h1,h2⟩,-⟩:=h;rw[h1,h2]
  decide
 ·rw[Ba hs] at h;simp only[Al] at h;have h:=h.2.1;unfold JI at h;by_cases hk:AG c.kind=true
  ·rw[Bb hk] at h;simp only[Al,Bj] at h;rw[h.1,h.2]
   decide
  ·rw[Ba hk] at h;simp only[Al,Bj] at h;exact⟨Ty.1 h.1,Ty.1 h.2⟩
theorem RS {n:Int}(h1:-32<=n)(h2:n<=31):(Lit.int .i64 n).wf=true:=by
 unfold Lit.wf;simp only[Al,Av];exact⟨Int.le_trans sY h1,Int.le_trans h2 sY⟩
section
variable {P:Program}
theorem Yqi {w:A5}{o:A4}{a:Act}{K:Act->A5->Prop}{Q:Exit->Act->A5->Prop}{s x:A8}{t e:TypeId}{cap B:Nat}{i:TypeInfo}{z v:A0}{n:Nat}{r:List A0}{y0 y1:Int}
  (ho:o.op=.call {callee:=.builtin .append,args:=#[s,x],argTypes:=#[t,t]})
  (ht:P.underlying t=some (.slice e))(hi:P.info? e=some i)(y:i.zero=some z)(g:z.cells.size=2)(b:i.size=2)(l:i.bytes=16)
  (hs:a.eval s=v)(f:w.ownsRow 0 e 2 v n r)(D:a.eval x=.slice (some ⟨B,0,none⟩) 1 cap)(c0:w.cell? ⟨B,0,none⟩=some (.int .i64 y0))(c1:w.cell? ⟨B,1,none⟩=some (.int .i64 y1))(hn:n<=1048576)
  (h:∀(q:Option Aa) (c:Nat) m,m.ownsRow 0 e 2 (.slice q (n+1) c) (n+1) (r++[.int .i64 y0,.int .i64 y1])->w.grownBy m v.ownBlock->(∀k,(Value.slice q (n+1) c).ownBlock=some k->v.ownBlock=some k\/w.heap.size<=k)->K (a.put o.dst (.slice q (n+1) c)) m):o.wp P a w K Q:=by
 have d:∀(j:Nat) u,([.int .i64 y0,.int .i64 y1]:List A0)[j]? =some u->w.cell? ((⟨B,0,none⟩:Aa).add j)=some u:=fun j u hj=>by
  rw[Gh,Ar]
  match j,hj with
  |0,hj=>cases hj;exact c0
  |1,hj=>cases hj;exact c1
 have p:∀u∈([.int .i64 y0,.int .i64 y1]:List A0),u.oneCell'=true:=by intro u A;simp only[Ee,Eg,Ep] at A;rcases A with rfl|rfl <;> rfl
 obtain⟨E,m,hr,h2,h3,-⟩:=Ow (P:=P) w 0 t o.type e i z 2 16 ht hi y b l g sY v n r f ⟨B,0,none⟩ 1 cap _ rfl d p tK sX (Do _);have h4:=Um ht hi y b l g sY f rfl d p tK sX hr;have C:=(MZ h2).1;rw[C] at h2 h4;unfold Oper.wp execOp;simp only[ho,resolve,invoke,builtin,As,Aw,Ap,Ox,Cn,Cs,hs,D,hr];have:=h _ _ m h2 h3 h4;rw[<-C] at this;exact this
end
section
variable {w x:A5}{L:List (Option Nat)}
theorem CX.from {B:Nat}{p:Option Aa}{l:List Ev}(h:CX w p l)(a:CV B p)(c:∀j,some j∈L->j<B):DR L w p l:=by
 refine⟨h,?_⟩;rcases h with h|⟨b,o,e,-,-⟩
 ·exact .inl (by first|exact h|exact Dh h)
 ·refine .inr ⟨b,o,e,fun hm=>?_⟩;have h1:=a _ e;have h2:=c b hm;simp only at h1;omega
theorem DR.below {p:Option Aa}{l:List Ev}(h:DR L w p l)(a:Below w.heap.size w x):DR L x p l:=h.kept (BF a none) fun k hk=>zT
end
section
variable {N:Nat}{w:A5}{G rb p:Nat}{s:ByteArray}{k:Int}{inter:Bool}{vv:A0}{vs:List (Int×Int)}{first:Int}
set_option maxRecDepth 100000 in
theorem Y40 (h:Ydb w G rb s p k inter vv vs first)(ht:Ybt N w)(hN:N<=rb)(hn:vs.length<=1048575):
  A9 prog 158 #[.pointer (some ⟨G,0,none⟩)] w (Qdn s G rb p k inter vv vs first w):=by
 have hp:=h.rd.2.1;obtain⟨Y,a7,c7⟩:=NX;obtain⟨W,d,cj,bs⟩:=Uy rfl h.vec;subst cj;obtain⟨A,hA⟩:=Ah w.heap.size;obtain⟨r,am⟩:=Ah (w.alloc (.cells Y 77 (0,0)));have bt:r.heap[A]? =some (.cells Y 77 (0,0)):=by rw[<-am,<-hA];exact heap_alloc_new w _
 have an:Below w.heap.size w r:=by rw[<-am];exact(Dn _ w).alloc (B9 _) _
 have c8:r.heap.size=A+1:=by rw[<-am,<-hA];simp
 have a8:G<A/\rb<A/\∀j,(Value.slice W vs.length d).ownBlock=some j->j<A:=by rw[<-hA];exact h.lt
 have c9:=a8.1;have da:=a8.2.1;have ad:=h.below an;have bu:=ht.below (an.mono (by omega:N<=w.heap.size));have bv:=bs.mono an;obtain⟨⟨ae,af⟩,bj⟩:=Ah (CY vs (AY k) first);obtain⟨⟨c,q,f⟩,ag⟩:=Ah (ctk inter (A2 s.data.toList) ae af p);have cl:AY k<=100:=by have:=(HY k).1;have:=(OU k).2.2.2.2;omega
 have cm:=Dm (fun(x:A5) (l:Below r.heap.size r x)=>(ZF (fun i=>vs.getD i (0,0)) W vs.length d (AY k) first x (bv.mono l) tK sX).mono fun e y (z:LS _ x e y)=>
  (⟨by rw[z.1,show KR (fun i=>vs.getD i (0,0)) vs.length (AY k) first=(ae,af) from bj];rfl,z.2⟩:e=.returned (.agg #[.int .i64 ae,.int .i64 af])/\Below x.heap.size x y))
 have cg:=Dm (fun(x:A5) (l:Below r.heap.size r x)=>(Qan inter ae af (bu.below (l.mono sX)) hN (ad.below l).rd).mono fun e y (z:Xz inter s rb ae af p x e y)=>
  (by
   obtain⟨c',q',f',sl,h1,h2,h3,h4,h5⟩:=z;rw[ag] at h1;injection h1 with e1 h1;injection h1 with e2 e3;subst e1 e2 e3;exact⟨sl,h2,h3,h4,h5⟩:∃sl,e=.returned (.tuple #[.agg (AD c sl).toArray,.int .i64 f])/\(∀i,i<6->C3 y x.heap.size (sl i) (c.ev i))/\AE y rb s q/\x.grownBy y (some rb)))
 have a6:=Dm (fun(x:A5) (l:Below r.heap.size r x)=>(ad.below l).blk);have ac:=Dm (fun(x:A5) (l:Yah [some rb] r x)=>(l.block G sX (fun hm=>by have e:=Df.1 hm;injection e with e;exact h.ne.1 e)).trans ad.blk);have bw:=Dm ad;have cn:=Dm a8;have bk:=Dm h.ne;have c1:=Dm ad.vec;have bl:Hid (ctk inter (A2 s.data.toList) (CY vs (AY k) first).1 (CY vs (AY k) first).2 p=(c,q,f)):=Dm (by rw[bj];exact ag);have db:=Dm (fun(e:f=0)=>(by
  rw[e] at ag;exact Z4 (VL (GX _) xT ag).2:(-32<=c.mx/\c.mx<=31)∧-32<=c.my/\c.my<=31))
 have co:=Dm (fun i=>(by have:=U7 inter (A2 s.data.toList) ae af p i;rw[ag] at this;exact this:(c.ev i).length<=65));have cp:=Dm am;have ch:=Dm hA;have cq:=Dm an;clear h ht bs bv ad bu ag bj cl am hA an a8 hp
 go_enter func158,ntmps158
 go_upto_region 1 with fail
 rw[cp.out,ch.out]
 go_cut [4,5] (fun u fv wx=>∃(C:Nat) (sl:Nat->A0),u=.pointer (some ⟨C,0,none⟩)/\fv=.int .i64 f/\wx.heap[C]? =some (.cells (AD c sl).toArray 77 (0,0))/\r.heap.size<=C/\Yah [some rb] r wx/\AE wx rb s q/\∀i,i<6->∃P cap,sl i=.slice P (c.ev i).length cap/\DR [some C] wx P (c.ev i)/\CV r.heap.size P)
 case first=>
  have X:Below r.heap.size r r.drew:=(Dn _ r).drew;refine Oa (S:=fun x=>x.heap[G]? =some (.cells (O3 rb k inter (.slice W vs.length d) first).toArray 157 (0,0))) tN (a6.out _ X) (fun g=>?_);refine AC 0 (some 7) g ?_
  try simp only[A1]
  refine AC 1 (some 8) g ?_
  try simp only[A1]
  refine AC 2 (some 9) g ?_
  try simp only[A1]
  refine B2 3 (some 10) (v:=.pointer (some ⟨rb,0,none⟩)) rfl rfl g tN (fun x l=>by have c0:=AA (o:=0) l rfl;go_simp) ?_
  try simp only[A1]
  refine AC 4 (some 11) g ?_
  try simp only[A1]
  refine AC 5 (some 12) g ?_
  try simp only[A1]
  refine AC 6 (some 13) g ?_
  try simp only[A1]
  refine B2 7 (some 14) (v:=.bool inter) rfl rfl g tN (fun x l=>by have c0:=AA (o:=5) l rfl;go_simp) ?_
  try simp only[A1]
  refine AC 8 (some 15) g ?_
  try simp only[A1]
  refine AC 9 (some 16) g ?_
  try simp only[A1]
  refine AC 10 (some 17) g ?_
  try simp only[A1]
  refine B2 11 (some 18) (v:=.slice W vs.length d) rfl rfl g tN (fun x l=>by have c0:=AA (o:=6) l rfl;go_simp) ?_
  try simp only[A1]
  refine AC 12 (some 19) g ?_
  try simp only[A1]
  refine AC 13 (some 20) g ?_
  try simp only[A1]
  refine AC 14 (some 21) g ?_
  try simp only[A1]
  refine B2 15 (some 22) (v:=.int .i64 (AY k)) rfl rfl g tN (fun x l=>by have c0:=AA (o:=4) l rfl;go_simp) ?_
  try simp only[A1]
  refine AC 16 (some 23) g ?_
  try simp only[A1]
  refine AC 17 (some 24) g ?_
  try simp only[A1]
  refine AC 18 (some 25) g ?_
  try simp only[A1]
  refine B2 19 (some 26) (v:=.int .i64 first) rfl rfl g tN (fun x l=>by have c0:=AA (o:=7) l rfl;go_simp) ?_
  try simp only[A1]
  generalize r.drew=v0 at g X ⊢;refine O8 (rs:=[20,25]) tN sV ?_;refine O6 rfl (fun K m=>?_) (O6 rfl (fun K m=>?_) O7)
  ·go_simp
   go_wp2_with fail
   refine(cm.out _ X).mono ?_;rintro e v1 ⟨rfl,hb⟩;have D:Below r.heap.size r v1:=X.trans (hb.mono X.size);clear hb;refine m.out _ _ (a6.out _ D) (fun n=>?_);clear m K g n;have g:=(a6.out _ D)
   try simp only[A1]
   refine O8 (rs:=[21,25]) tN sV ?_;refine O6 rfl (fun K m=>?_) (O6 rfl (fun K m=>?_) O7)
   ·go_simp
    go_wp2_with fail
    refine(cg.out _ D).mono ?_;rintro e v2 ⟨sl,rfl,F,a9,T⟩;have ba:Yah [some rb] r v2:=(Yah.below (L:=[some rb]) D).trans (Yah.one (L:=[some rb]) T fun j _ e=>Wae) fun j _ h=>h;have ah:∀i,i<6->∃P cap,sl i=.slice P (c.ev i).length cap/\CX v2 P (c.ev i)/\CV r.heap.size P:=fun i hi=>by
     obtain⟨P,cap,h1,h2,h3⟩:=F i hi;exact⟨P,cap,h1,h2,h3.mono D.size⟩
    clear F;clear T;refine m.out _ _ (ac.out _ ba) (fun n=>?_);clear m K g n;have g:=(ac.out _ ba)
    try simp only[A1]
    refine AC 22 (some 6) g ?_
    try simp only[A1]
    refine AC 23 (some 29) g ?_
    try simp only[A1]
    refine AC 24 (some 30) g ?_
    try simp only[A1]
    refine O8 (rs:=[25]) tN sV ?_;refine O6 rfl (fun K m=>?_) O7
    go_simp
    obtain⟨C,U⟩:=Ah v2.heap.size;obtain⟨v3,bb⟩:=Ah (v2.alloc (.cells Y 77 (0,0)));have gC:v3.heap[C]? =some (.cells Y 77 (0,0)):=by rw[<-bb,<-U];exact heap_alloc_new v2 _
    have ai:r.heap.size<=C:=by rw[<-U];exact ba.size
    have bc:Below v2.heap.size v2 v3:=by rw[<-bb];exact(Dn _ v2).alloc (B9 _) _
    have I:Yah [some rb] r v3:=ba.trans (Yah.below (L:=[]) bc) sV;have ao:=a9.below bc;have H:∀i,i<6->∃P cap,sl i=.slice P (c.ev i).length cap/\DR [some C] v3 P (c.ev i)/\CV r.heap.size P:=fun i hi=>by
     obtain⟨P,cap,h1,h2,h3⟩:=ah i hi;refine⟨P,cap,h1,⟨h2.below bc,?_⟩,h3⟩;rcases h2 with h2|⟨b,o,h2,h4,-⟩
     ·exact .inl h2
     ·exact .inr ⟨b,o,h2,fun hm=>Waf⟩
    clear ah bc;rw[bb,U];clear bb U;refine m.out _ _ (ac.out _ I) (fun n=>?_);clear m K g n;have g:=(ac.out _ I)
    exact Wf5
   ·go_simp
    obtain⟨C,U⟩:=Ah v1.heap.size;obtain⟨v2,hn2⟩:=Ah (v1.alloc (.cells Y 77 (0,0)));have gC:v2.heap[C]? =some (.cells Y 77 (0,0)):=by rw[<-hn2,<-U];exact heap_alloc_new v1 _
    have ai:r.heap.size<=C:=by rw[<-U];exact D.size
    have O:Below r.heap.size r v2:=by rw[<-hn2];exact D.alloc D.size _
    rw[hn2,U];clear hn2 U;exact Wf6
  ·go_simp
   obtain⟨C,U⟩:=Ah v0.heap.size;obtain⟨v1,bd⟩:=Ah (v0.alloc (.cells Y 77 (0,0)));have gC:v1.heap[C]? =some (.cells Y 77 (0,0)):=by rw[<-bd,<-U];exact heap_alloc_new v0 _
   have ai:r.heap.size<=C:=by rw[<-U];exact X.size
   have D:Below r.heap.size r v1:=by rw[<-bd];exact X.alloc X.size _
   rw[bd,U];clear bd U;refine m.out _ _ (a6.out _ D) (fun n=>?_);clear m K g n;have g:=(a6.out _ D)
   try simp only[A1]
   refine O8 (rs:=[20]) tN sV ?_;refine O6 rfl (fun K m=>?_) O7
   go_simp
   go_wp2_with fail
   refine(cm.out _ D).mono ?_;rintro e v2 ⟨rfl,hb⟩;have O:Below r.heap.size r v2:=D.trans (hb.mono D.size);have gC:=(hb.block C (Am.1 gC).1).trans gC;clear hb;exact Wf6
 case rest=>
  clear cm cg a6 ac;obtain⟨C,sl,rfl,rfl,U,ai,aj,bx,ah⟩:=hcut;obtain⟨B,rfl⟩:∃x,x=wc:=⟨_,rfl⟩;have aw:∀i,i<6->(sl i).oneCell'=true:=fun i hi=>by obtain⟨P,cap,h1,-,-⟩:=ah i hi;rw[h1];rfl
  obtain⟨Z,hZ⟩:=Ah ((AD c sl).toArray);have Q:(prog.info? 77).map (·.size)=some Z.size:=by rw[<-hZ,show (AD c sl).toArray.size=18 from rfl];kernel_rfl
  have bm:Y.size=Z.size:=by rw[a7,<-hZ];rfl
  have bn:Z.all (·.oneCell')=true:=hZ▸NE _ _ aw;have bz:B.heap[C]? =some (.cells Z 77 (0,0)):=by rw[<-hZ];exact U
  have b0:=(aj.block A sX (fun hm=>Waf)).trans bt;have ci:=Dm hZ;have cr:=Dm ah;have ax:=Dm aw;have dc:=aj.size;have b1:C<B.heap.size:=(Am.1 U).1;have ay:Ydb B G rb s q k inter (.slice W vs.length d) vs first:={
   blk:=(aj.block G sX (fun hm=>by have e:=Df.1 hm;injection e with e;exact bk.out.1 e)).trans bw.out.blk
   rd:=bx
   vec:=MX bw.out.vec aj fun j hj hm=>by have e:=Df.1 hm;injection e with e;exact(bk.out.2 j hj).2 e
   ne:=bk.out}
  have c2:Hid (Yah (EQ rb G (.slice W vs.length d)) w B):=Dm ((Yah.below cq.out).trans aj fun j _ hm=>Wai);have ck:=AA (o:=2) U rfl;clear hZ ah aw aj bx bt;by_cases hf:f=0
  case neg=>
   have tf:(f != 0)=true:=Wa8;have b2:=Dm hf;clear hf ck
   go_wp2_with (first|(with_reducible refine Nb rfl 77 _ rfl C rfl 77 Z (0,0) _ bz Io rfl Q ?_)|(with_reducible refine AK rfl 77 _ _ rfl A Z Y rfl rfl 77 b0 Q bm bn ?_;intro wz az V))
   refine Hb (C0 rfl _ _ A 77 _ (0,0) _ rfl az Io rfl Q) rfl ?_;refine⟨c,q,f,f,sl,bl.out,by rw[Bb b2.out],by rw[ci.out];rfl,ax.out,?_,⟨q,ay.rd.grown V sX⟩,fun e=>absurd e b2.out⟩;exact c2.out.trans (Yah.one (L:=[some A]) V fun j _ e=>Wae) fun j hj hm=>Wbh
  have tf:(f != 0)=false:=by rw[hf];rfl
  have hm:=db.out hf;have b2:=Dm hf;have a9:B.rangeAt C 4 [.int .i64 c.mx,.int .i64 c.my]:=fun j v hj=>by
   match j,hj with
   |0,hj=>injection hj with hj;subst hj;exact AA (o:=4) U rfl
   |1,hj=>injection hj with hj;subst hj;exact AA (o:=5) U rfl
  have cs:=fun(x y:A5) (l:Below B.heap.size B x) (hy:Below x.heap.size x y)=>(l.trans (hy.mono l.size):Below B.heap.size B y);have bf:=Dm (fun(x:A5) (l:Below B.heap.size B x)=>((fun j v hj=>(G4 (a:=⟨C,4+j,none⟩) (l.block C b1)).trans (a9 j v hj)):x.rangeAt C 4 [.int .i64 c.mx,.int .i64 c.my]));have a0:=Dm (fun(x:A5) (l:Below B.heap.size B x)=>((l.block C b1).trans bz));have c3:=Dm (fun(x:A5) (l:Below B.heap.size B x)=>(ay.below l).cell (o:=1) rfl);have c4:=Dm (fun(x:A5) (l:Below B.heap.size B x)=>(ay.below l).cell (o:=6) rfl);have b3:=Dm (fun(x:A5) (l:Below B.heap.size B x)=>(by rw[<-ci.out];exact(Y5x c sl x).mono fun e y z=>⟨z.1,cs x y l z.2⟩:A9 prog 179 #[.agg Z] x fun e y=>e=.returned (.bool (!AG c.kind))/\Below B.heap.size B y));have c5:=Dm (fun(x:A5) (l:Below B.heap.size B x)=>((fV k (vs.length:Int) c.mx c.my x).mono fun e y z=>⟨z.1,cs x y l z.2⟩:A9 prog 84 #[.int .i64 k,.int .i64 (vs.length:Int),.agg #[.int .i64 c.mx,.int .i64 c.my]] x fun e y=>e=.returned (.bool (H1 k (vs.length:Int) c.mx c.my))/\Below B.heap.size B y));have ak:=Dn B.heap.size B;have aa:D0 k vs.length c=(AG c.kind || H1 k (vs.length:Int) c.mx c.my):=rfl;obtain⟨bo,a1⟩:=Ah (D0 k vs.length c);rw[a1] at aa;have b4:=Dm a1;have ct:=Dm ay;clear hf cs a9 ay a1
  go_upto_region 4 with fail
  go_cut [51] (fun v wx=>v=.bool (!bo)/\Below B.heap.size B wx)
  case first=>
   cases hik:AG c.kind with
   |true=>
    rw[hik] at aa b3;have cu:Hid (bo=true):=Dm (by rw[aa];rfl);clear hik aa;refine E1 (S:=fun x=>Below B.heap.size B x) 17 tN tN ak.drew ?_;simp only[Dq,Bk,Gp,Gq];refine NG 77 _ C 77 Z (0,0) _ tN rfl rfl (fun x l=>a0.out x l) Io rfl Q ?_;simp only[A1];refine C2 tN b3.out (fun _=>tN) ?_;simp only[A1];refine AQ ?_;simp only[A1]
    iterate 13 (refine GB tN ?_;simp only[A1])
    refine AQ ?_;simp only[A1];exact Wgg
   |false=>
    rw[hik] at aa b3;have cu:=Dm (aa.trans (Bool.false_or _));clear hik aa;generalize H1 k (vs.length:Int) c.mx c.my=mv at *;refine E1 (S:=fun x=>Below B.heap.size B x) 17 tN tN ak.drew ?_;simp only[Dq,Bk,Gp,Gq];refine NG 77 _ C 77 Z (0,0) _ tN rfl rfl (fun x l=>a0.out x l) Io rfl Q ?_;simp only[A1];refine C2 tN b3.out (fun _=>tN) ?_;simp only[A1]
    iterate 4 (refine AQ ?_;simp only[A1])
    refine B4 3 _ ⟨G,1,none⟩ (.int .i64 k) tN rfl rfl (fun x l=>by have c0:=c3.out x l;go_simp) ?_;simp only[A1]
    iterate 3 (refine AQ ?_;simp only[A1])
    refine B4 98 _ ⟨G,6,none⟩ (.slice W vs.length d) tN rfl rfl (fun x l=>by have c0:=c4.out x l;go_simp) ?_;simp only[A1]
    iterate 2 (refine AQ ?_;simp only[A1])
    refine Qkh 73 _ C 4 [.int .i64 c.mx,.int .i64 c.my] _ tN rfl rfl (fun x l=>bf.out x l) Gr rfl tN ?_;simp only[A1];refine C2 tN c5.out (fun _=>tN) ?_;simp only[A1]
    iterate 2 (refine AQ ?_;simp only[A1])
    exact Wgg
  case rest=>
   obtain⟨rfl,R⟩:=hcut;clear ak b3 c5 c3 c4 aa;have b5:=a0.out _ R;have b6:=(R.block A sX).trans b0;have a2:=ct.out.below R;have b7:=bf.out _ R;have c6:Hid (Yah (EQ rb G (.slice W vs.length d)) w wc):=Dm (c2.out.trans (Yah.below (L:=[]) R) sV);have cv:=Dm R;have dd:=R.size;cases bo with
   |false=>
    clear a0 bf R
    go_wp2_with (first|(with_reducible refine Nb rfl 77 _ rfl C rfl 77 Z (0,0) _ b5 Io rfl Q ?_)|(with_reducible refine AK rfl 77 _ _ rfl A Z Y rfl rfl 77 b6 Q bm bn ?_;intro wz az V))
    refine Hb (C0 rfl _ _ A 77 _ (0,0) _ rfl az Io rfl Q) rfl ?_;refine⟨c,q,f,8,sl,bl.out,by rw[Ba (fun h=>h b2.out),Bb b4.out],by rw[ci.out];rfl,ax.out,?_,⟨q,a2.rd.grown V sX⟩,fun e=>by cases e⟩;exact c6.out.trans (Yah.one (L:=[some A]) V fun j _ e=>Wae) fun j hj hm=>Wbh
   |true=>
    clear a0 bf R;have hl:=a2.lt;have de:r.heap.size<=C/\A+1<=C:=sX;have k6:=a2.cell (o:=6) rfl;obtain⟨ti,j0,j1,j2,j3⟩:=VP;have ak:Below wc.heap.size wc wc.drew:=(Dn _ wc).drew;have bp:=(a2.below ak).cell (o:=6) rfl;have bi:wc.drew.rangeAt C 4 [.int .i64 c.mx,.int .i64 c.my]:=b7
    go_wp2
    refine Ht tN ?_;change wpAny _ _ _ _ _ _ _ (World.drew _);refine AW 0 (some 53) (v:=?_) rfl rfl tN tN tN Wbr (Or.inl ⟨tN,?_⟩) ?_
    rotate_left
    ·(intro x;go_simp;try with_reducible rfl)
    rotate_right
    try simp only[A1]
    refine AW 1 (some 54) (v:=?_) rfl rfl tN tN tN Wbr (Or.inl ⟨tN,?_⟩) ?_
    rotate_left
    ·(intro x;go_simp;try with_reducible rfl)
    rotate_right
    try simp only[A1]
    refine AW 2 (some 55) (v:=?_) rfl rfl tN tN tN Wbr (Or.inl ⟨tN,?_⟩) ?_
    rotate_left
    ·(intro x;go_simp;try with_reducible rfl)
    rotate_right
    try simp only[A1]
    refine AW 3 (some 56) (v:=?_) rfl rfl tN tN tN Wbr (Or.inl ⟨tN,?_⟩) ?_
    rotate_left
    ·(intro x;go_simp;try with_reducible rfl)
    rotate_right
    try simp only[A1]
    refine AW 5 (some 58) (v:=?_) rfl rfl tN tN tN Wbr (Or.inl ⟨tN,?_⟩) ?_
    rotate_left
    ·(intro x;go_simp;try with_reducible rfl)
    rotate_right
    try simp only[A1]
    refine dB (S:=fun x=>x.cell? ⟨G,6,none⟩=some (.slice W vs.length d)) 4 6 7 (some 57) (v:=.slice W vs.length d) rfl rfl rfl rfl tN tN tN Wbr tN tN tN tN tN sY sY bp (Or.inl ⟨tN,?_⟩) ?_
    ·(intro x l;have c0:=(show x.cell? ⟨G,6,none⟩=some (.slice W vs.length d) from l);go_simp)
    try simp only[A1]
    refine wpOp_step rfl (fun K m=>?_);have b8:=Dm m;clear m;refine(Bb tN).mpr ?_;refine wp_load_mid 73 _ rfl C 4 rfl [.int .i64 c.mx,.int .i64 c.my] _ bi Gr rfl tN ?_;refine b8.out _ _ ⟨bp,?_⟩;clear b8 K
    try simp only[Act.put,Ao]
    refine wpOp_step rfl (fun K m=>?_);have b8:=Dm m;clear m
    go_simp
    obtain⟨wP,bg⟩:=Ah ((wc.alloc (.cells #[.int .i64 c.mx,.int .i64 c.my] 73 (0,0))).drew);have a3:Below wc.heap.size wc wP:=by rw[<-bg];exact((Dn _ wc).alloc (B9 _) _).drew
    have bq:wP.heap[wc.heap.size]? =some (.cells ([Value.int .i64 c.mx,.int .i64 c.my]:List A0).toArray 73 (0,0)):=by rw[<-bg];exact heap_alloc_new wc _
    have a4:=a2.below a3;have b9:=AA (o:=0) bq rfl;have ca:=AA (o:=1) bq rfl;have df:=a3.size;rw[bg];refine b8.out _ _ ⟨a4.cell (o:=6) rfl,?_⟩;clear b8 K bg bp bi ak k6;refine Nx (rs:=[8]) tN sV ?_;refine Nt rfl (fun K m=>?_) Nv;refine(Bb tN).mpr ?_;refine Yqi (v:=.slice W vs.length d) rfl underlying98 j0 j1 rfl j2 j3 rfl a4.vec rfl b9 ca sX ?_;intro q8 ab w8 cw al bh;refine m _ _ ?_;clear m K b9 ca bq j0 j1 j2 j3;have cb:=a4.vecs (v:=(c.mx,c.my)) al cw bh;have dg:=al.size;have br:w8.heap[G]? =some (.cells (O3 rb k inter (.slice W vs.length d) first).toArray 157 (0,0)):=(al.block G sX fun e=>(a4.ne.2 G e.symm).1 rfl).trans a4.blk;have k6:=AA (o:=6) br rfl;have f6:=AL (o:=6) br;have a5:=cn.out.2.2;have cc:w8.heap[C]? =some (.cells Z 77 (0,0)):=(al.block C sX fun e=>by have:=a5 C e.symm;omega).trans ((a3.block C sX).trans b5);have cd:w8.heap[A]? =some (.cells Y 77 (0,0)):=(al.block A sX fun e=>by have:=a5 A e.symm;omega).trans ((a3.block A sX).trans b6);have cx:(w8.setCell ⟨G,6,none⟩ (.slice q8 (vs.length+1) ab)).heap[C]? =some (.cells Z 77 (0,0)):=by rw[Ib _ _ _ _ (show C≠G by omega)];exact cc
    have cy:(w8.setCell ⟨G,6,none⟩ (.slice q8 (vs.length+1) ab)).heap[A]? =some (.cells Y 77 (0,0)):=by rw[Ib _ _ _ _ (show A≠G by omega)];exact cd
    have g9:=Yah.set (w:=w8) (p:=⟨G,6,none⟩) (L:=[some G]) (.slice q8 (vs.length+1) ab) (Df.2 rfl);clear br cc cd;refine AW 9 (some 62) (v:=?_) rfl rfl tN tN tN Wbr (Or.inl ⟨tN,?_⟩) ?_
    rotate_left
    ·(intro x;go_simp;try with_reducible rfl)
    rotate_right
    try simp only[Act.put,Ao]
    refine AW 10 (some 63) (v:=?_) rfl rfl tN tN tN Wbr (Or.inl ⟨tN,?_⟩) ?_
    rotate_left
    ·(intro x;go_simp;try with_reducible rfl)
    rotate_right
    try simp only[Act.put]
    refine Nx (rs:=[11]) tN sV ?_;refine Nt rfl (fun K m=>?_) Nv
    go_simp
    generalize w8.setCell ⟨G,6,none⟩ (.slice q8 (vs.length+1) ab)=w9 at *;refine m _ _ ?_;clear m K k6 f6;refine O5 tN ?_ _
    go_wp2_with (first|(with_reducible refine Nb rfl 77 _ rfl C rfl 77 Z (0,0) _ cx Io rfl Q ?_)|(with_reducible refine AK rfl 77 _ _ rfl A Z Y rfl rfl 77 cy Q bm bn ?_;intro wz az V))
    refine Hb (C0 rfl _ _ A 77 _ (0,0) _ rfl az Io rfl Q) rfl ?_;have dh:=ch.out;have gM:Yah [(Value.slice W vs.length d).ownBlock,some G,some A] wc wz:=by
     have g1:Yah [(Value.slice W vs.length d).ownBlock,some G,some A] wc wP:=Yah.below a3;have g2:=g1.trans (M:=[(Value.slice W vs.length d).ownBlock]) (Yah.one al fun j _ e=>Wae) fun j _ hm=>Wai;have g3:=g2.trans g9 fun j _ hm=>Waj;exact g3.trans (M:=[some A]) (Yah.one V fun j _ e=>Wae) fun j _ hm=>Wak
    have cz:∀j,some j∈[(Value.slice W vs.length d).ownBlock,some G,some A]->j<A+1:=fun j hm=>by
     rcases Ee.1 hm with e|hm
     ·have:=a5 j e.symm;omega
     ·rcases Ee.1 hm with e|hm
      ·exact Wga
      ·have e:=Df.1 hm;exact Wga
    refine⟨c,q,f,0,sl,bl.out,by rw[Ba (fun h=>h b2.out),Ba (by rw[b4.out];decide)],by rw[ci.out];rfl,ax.out,?_,⟨q,cb.rd.grown V sX⟩,fun _=>⟨.slice q8 (vs.length+1) ab,cb.put V ⟨sX,sX,fun j hj=>?_⟩,fun j hj=>?_,fun L hL=>?_⟩⟩
    ·refine c6.out.trans gM fun j hj hm=>?_;rcases Ee.1 hm with e|hm
     ·rw[e];exact Ey _ (Ey _ (Ez ..))
     ·rcases Ee.1 hm with e|hm
      ·rw[e];exact Ey _ (Ez ..)
      ·have e:=Df.1 hm;exact Wga
    ·rcases bh j hj with h2|h2
     ·have:=a5 j h2;omega
     ·omega
    ·rcases bh j hj with h2|h2
     ·exact .inl h2
     ·exact .inr sX
    ·obtain⟨pf,cf,ce⟩:=ZZ cr.out;have R:=cv.out;refine⟨pf,cf,aI fun i hi=>(ce i hi).1,⟨RS hm.1.1 hm.1.2,RS hm.2.1 hm.2.2⟩,fun i hi=>⟨by have:=co.out i;unfold maxLen;omega,?_⟩⟩;obtain⟨-,h2,h3⟩:=ce i hi;obtain⟨h4,h5⟩:=h2.1.from (L:=[(Value.slice W vs.length d).ownBlock,some G,some A]) h3 fun j hm=>by have:=cz j hm;omega
     have h6:=(DR.below ⟨h4,h5⟩ R).keptL gM fun j h=>h;refine⟨h6.1,?_⟩;rcases h4 with h4|⟨b,o,e,di,-⟩
     ·exact .inl (by first|exact h4|exact Dh h4)
     ·refine .inr ⟨b,o,e,fun hm=>?_⟩;have h7:=h3 _ e;simp only at h7;rcases Ee.1 hm with e2|e2
      ·rcases bh b e2.symm with h8|h8
       ·have:=a5 b h8;omega
       ·omega
      ·have:=hL b e2;omega
end
section
variable {N:Nat}{w:A5}{G rb p:Nat}{s:ByteArray}{k:Int}{inter:Bool}{vv:A0}{vs:List (Int×Int)}{first:Int}
set_option maxRecDepth 100000 in
theorem Qb1 (i:Nat)(h:Ydb w G rb s p k inter vv vs first)(ht:Ybt N w)(hN:N<=rb)(b8:N<=G)(bg:∀j,vv.ownBlock=some j->N<=j)(hn:vs.length<=1000000)(hs:s.size<=1073741824)(hi:i<=1000):
  A9 prog 128 #[.pointer (some ⟨G,0,none⟩),.int .i64 (i:Int)] w (Y9u s G rb p k inter vv vs first i w):=by
 have b9:=To;obtain⟨Y,hY⟩:∃Y:Array A0,[Value.bool false,.int .i64 0,.int .i64 0,.slice none 0 0].toArray=Y:=⟨_,rfl⟩;rw[hY] at b9;obtain⟨ca,cb,db⟩:=NX;obtain⟨A,hA⟩:=Ah w.heap.size;obtain⟨wA,R⟩:=Ah (w.alloc (.cells Y 46 (0,0)));have bh:wA.heap[A]? =some (.cells Y 46 (0,0)):=by rw[<-R,<-hA];exact heap_alloc_new w _
 have aw:Below w.heap.size w wA:=by rw[<-R];exact(Dn _ w).alloc (B9 _) _
 have dc:wA.heap.size=A+1:=by rw[<-R,<-hA];simp
 have ax:=h.lt;have ch:=mE i (h.below aw) hs hi;have cd:Hid (∀x,Yah (EQ rb G vv) w x->Ybt N x):=Dm fun x hx=>ht.below (hx.under sX fun j hj=>by
  rcases IP.1 hj with e|e|e
  ·omega
  ·omega
  ·exact bg j e)
 have bi:Y.size=4:=by rw[<-hY];rfl
 have ce:=Dm R;have bj:=Dm hA;have bk:=Dm ax;have cf:=Dm aw;have dd:G<A/\rb<A:=⟨sX,sX⟩;clear R hA h ht bg ax aw b8 hi hY
 go_enter func128,ntmps128
 go_wp2_with fail
 rw[ce.out,bj.out];refine ch.mono ?_;rintro e w1 ⟨b,id,qu,z,fs,f,bl,rfl,bm,ah⟩;have bn:=(ah.block A sX (fun hm=>by
  rcases Ee.1 hm with e|e
  ·exact Wga
  ·have e:=Df.1 e;injection e with e;omega)).trans bh
 have de:=ah.size;obtain⟨X,hX⟩:=Ah w1.heap.size;obtain⟨Z,hZ⟩:=Ah ([Value.bool b,.int .i64 id,.int .i64 qu,.slice none 0 0].toArray);have n:#[Value.bool b,.int .i64 id,.int .i64 qu,.slice none 0 0]=Z:=hZ;rw[n];obtain⟨I,T⟩:=Ah (w1.alloc (.cells Z 46 (0,0)));have B:Below w1.heap.size w1 I:=by rw[<-T];exact(Dn _ w1).alloc (B9 _) _
 have ay:I.heap[X]? =some (.cells Z 46 (0,0)):=by rw[<-T,<-hX];exact heap_alloc_new w1 _
 have cg:I.heap.size=X+1:=by rw[<-T,<-hX];simp
 have az:=(B.block A sX).trans bn;have d:(prog.info? 46).map (·.size)=some Z.size:=Wa1;have J:Y.size=Z.size:=by rw[bi,<-hZ];rfl
 have O:Z.all (·.oneCell')=true:=Wbn;have ci:Hid (Yah (EQ rb G vv) w I):=Dm (((Yah.below cf.out).trans ah fun j _ hm=>by
  rcases Ee.1 hm with e|e
  ·rw[e];exact Ez ..
  ·rw[Df.1 e];exact Ey _ (Ez ..)).trans (Yah.below (L:=[]) B) sV)
 have U:=bm.below B;obtain⟨⟨bf,Eq,a0⟩,hE⟩:=Ah (CG ctk s.data.toList inter k fs (BN k).toNat z vs);have bo:=Dm hX;have c4:=Dm hZ;have a1:=Dm T;have a2:=Dm bl;have b7:=Dm hE;clear hX hZ n T bl hE ah bm bn bh ch;by_cases hf:f=0
 case neg=>
  have tf:(f != 0)=true:=Wa8;have c5:=Dm hf;clear hf
  go_wp2_with (first|(with_reducible refine BL rfl 46 _ _ rfl Z Y 46 rfl rfl d J O ?_;rw[a1.out,bo.out])|(with_reducible refine Nb rfl 46 _ rfl X rfl 46 Z (0,0) _ ay Ip rfl d ?_)|(with_reducible refine AK rfl 46 _ _ rfl A Z Y rfl rfl 46 az d J O ?_;intro wz W D))
  refine Hb (C0 rfl _ _ A 46 _ (0,0) _ rfl W Ip rfl d) rfl ?_;refine⟨b,id,qu,z,fs,f,bf,Eq,a0,f,a2.out,b7.out,by rw[Bb c5.out],_,by rw[c4.out];rfl,⟨rfl,fun u hu=>?_⟩,?_,⟨_,U.rd.grown D sX⟩,fun e=>absurd e c5.out⟩
  ·simp only[Ee,Eg,Ep] at hu;rcases hu with rfl|rfl|rfl|rfl <;> rfl
  ·exact ci.out.trans (Yah.one (L:=[some A]) D fun j _ e=>Wae) fun j hj hm=>Wbi
 subst hf;have tf:((0:Int) != 0)=false:=rfl;have am:Y4l w I G rb A X s z k inter vv vv (.slice none 0 0) vs fs Y b id qu []:={
  rdr:=U
  res:=az
  row:=by rw[c4.out];exact ay
  cel:=EU.nil _ _
  ord:=by have:=bj.out;have:=bo.out;omega
  low:=bk.out
  own:=fun j hj=>⟨.inl hj,by have:=bk.out.2.2 j hj;have:=bj.out;have:=bo.out;omega⟩
  cown:=fun j hj=>Wal
  grown:=ci.out}
 have k3:=Dm (fun(x:A5) (hx:Below I.heap.size I x)=>(U.below hx).cell (o:=3) rfl);have k4:=Dm (fun(x:A5) (hx:Below I.heap.size I x)=>(U.below hx).cell (o:=4) rfl);obtain⟨M,hM⟩:∃M:Nat,(BN k).toNat=M:=⟨_,rfl⟩;have a3:BN k=(M:Int)/\M<=10000:=by have:=PK k;have:=(UF k).1;omega
 have wm:IntKind.i64.wrap (BQ k*AY k)=(M:Int):=by
  rw[show BQ k*AY k=BN k from Int.mul_comm _ _,a3.1];exact CE sX
 have df:=a3.2;have c8:Hid (CZ (bf,Eq,a0) [] (CG ctk s.data.toList inter k fs M z vs)):=Dm (by rw[<-hM,b7.out];exact CZ.start _);have bp:Below I.heap.size I I:=Dn _ _;clear hM a3 U ay az cg B;generalize BQ k=fl at *;generalize AY k=fa at *
 go_upto_region 4 with (with_reducible refine BL rfl 46 _ _ rfl Z Y 46 rfl rfl d J O ?_;rw[a1.out,bo.out])
 refine E1 (S:=fun x=>Below I.heap.size I x) 10 tN tN bp.drew ?_;simp only[Dq,Bk,Gp,Gq]
 iterate 3 (refine AQ ?_;simp only[A1])
 refine B4 3 _ ⟨G,3,none⟩ (.int .i64 fl) tN rfl rfl (fun x hx=>by have c0:=k3.out x hx;go_simp) ?_;simp only[A1]
 iterate 3 (refine AQ ?_;simp only[A1])
 refine B4 3 _ ⟨G,4,none⟩ (.int .i64 fa) tN rfl rfl (fun x hx=>by have c0:=k4.out x hx;go_simp) ?_;simp only[A1]
 iterate 2 (refine AQ ?_;simp only[A1])
 refine DX fun w3 aa=>?_;have an:=am.below aa;clear am aa bp k3 k4 a1 bo ci wm
 go_wp2
 go_loopw [29] (fun t wx=>∃(j q2:Nat) (cs:List Cel) (a4 cv:A0) (vz:List (Int×Int)),t=.int .i64 (j:Int)/\j<=M/\Y4l w wx G rb A X s q2 k inter vv a4 cv vz fs Y b id qu cs/\Hid (cs.length=j)/\Hid (vz=vs++CP cs)/\Hid (CZ (bf,Eq,a0) cs (CG ctk s.data.toList inter k fs (M-j) q2 vz))) (fun t _=>M-(intOf t).toNat)
 case atStart=>exact⟨0,z,[],vv,_,vs,rfl,Do _,an,Dm rfl,Dm (by simp[CP]),c8⟩
 case round=>
  clear an c8;obtain⟨j,q2,cs,a4,cv,vz,rfl,hj,a,ab,ai,hT⟩:=hrel;have bq:Hid ((prog.info? 46).map (·.size)=some ([Value.bool b,.int .i64 id,.int .i64 qu,cv]:List A0).toArray.size):=Dm tN;have ao:cv.oneCell'=true:=(MZ a.cel.choose_spec.2).2.2;obtain⟨a5,n⟩:=Ah (([Value.bool b,.int .i64 id,.int .i64 qu,cv]:List A0).toArray);have d:(prog.info? 46).map (·.size)=some a5.size:=by rw[<-n];exact bq.out
  have J:Y.size=a5.size:=by rw[bi,<-n];rfl
  have E:∀u∈([Value.bool b,.int .i64 id,.int .i64 qu,cv]:List A0),u.oneCell'=true:=by
   intro u hu;simp only[Ee,Eg,Ep] at hu;rcases hu with rfl|rfl|rfl|rfl
   ·rfl
   ·rfl
   ·rfl
   ·exact ao
  have O:a5.all (·.oneCell')=true:=by
   rw[<-n,Gb];exact fun v hv=>E v (by simpa using hv)
  have aj:=Dm n;have br:=Dm E;clear n E ao bq;by_cases ax:j<M
  ·have t1:decide ((j:Int)<(M:Int))=true:=sU;have a6:vz.length<=1048575:=by rw[ai.out,B8];unfold CP;rw[Kh,ab.out];omega
   have cc:=Y40 a.rdr (cd.out _ a.grown) hN a6
   go_wp2_with fail
   refine cc.mono ?_;rintro e w4 ⟨c,q3,f3,g,sl,ac,hg,rfl,ap,ad,⟨q',a7⟩,a8⟩;clear cc;obtain⟨C,hC⟩:=Ah w4.heap.size;obtain⟨a9,P⟩:=Ah ((AD c sl).toArray);rw[P];obtain⟨w5,ak⟩:=Ah (w4.alloc (.cells a9 77 (0,0)));have F:Below w4.heap.size w4 w5:=by rw[<-ak];exact(Dn _ w4).alloc (B9 _) _
   have cj:w5.heap[C]? =some (.cells a9 77 (0,0)):=by rw[<-ak,<-hC];exact heap_alloc_new w4 _
   have ba:(prog.info? 77).map (·.size)=some a9.size:=by rw[<-P,show (AD c sl).toArray.size=18 from rfl];kernel_rfl
   have aq:ca.size=a9.size:=by rw[cb,<-P];rfl
   have bs:a9.all (·.oneCell')=true:=P▸NE _ _ ap;have c9:=Dm hC;have bt:=Dm P;have bu:=Dm ak;have hb:=a.bad ad;have dg:=ad.size;have ho:=a.ord;clear hC P ak ap;by_cases m:g=0
   case neg=>
    have tg:(g != 0)=true:=by rw[Fj];exact m
    obtain⟨bv,B,aa⟩:=hb;have bb:=(F.block A sX).trans bv;have q:=(F.block X sX).trans B;rw[aj.out] at q;have dh:Hid (a0=g):=Dm (by
     have h1:=hT.out;rw[show M-j=(M-j-1)+1 by omega] at h1;by_cases r:f3=0
     ·rw[Ba (fun h=>h r)] at hg;by_cases hv:D0 k vz.length c=false
      ·rw[Bb hv] at hg;rw[hg];exact bM h1 (by rw[ac,r]) hv
      ·rw[Ba hv] at hg;exact absurd hg m
     ·rw[Bb r] at hg;rw[hg];exact Yv h1 ac r)
    have di:=Dm (aa.trans (Yah.below (L:=[]) F) sV);have ck:=a7.below F;have cl:=Dm m;have dj:=F.size;clear m hg a8 a hT ab ai ac bv B aa a7 ad a6
    go_wp2_with (first|(with_reducible refine BL rfl 77 _ _ rfl a9 ca 77 rfl rfl ba aq bs ?_;rw[bu.out,c9.out])|(with_reducible refine Nb rfl 46 _ rfl X rfl 46 a5 (0,0) _ q Ip rfl d ?_)|(with_reducible refine AK rfl 46 _ _ rfl A a5 Y rfl rfl 46 bb d J O ?_;intro wz W D))
    refine Hb (C0 rfl _ _ A 46 _ (0,0) _ rfl W Ip rfl d) rfl ?_;refine⟨b,id,qu,z,fs,0,bf,Eq,a0,g,a2.out,b7.out,by rw[Ba (fun h=>h rfl),dh.out],_,by rw[aj.out];rfl,⟨rfl,br.out⟩,?_,⟨_,ck.grown D sX⟩,fun e=>absurd e cl.out⟩;exact di.out.trans (Yah.one (L:=[some A]) D fun j _ e=>Wae) fun j hj hm=>Wbi
   have tg:(g != 0)=false:=by rw[m];rfl
   have r:f3=0:=by
    by_cases h1:f3=0
    ·exact h1
    ·rw[Bb h1] at hg;exact absurd (hg.symm.trans m) h1
   have bw:D0 k vz.length c=true:=by
    rw[Ba (fun h=>h r)] at hg;cases hv:D0 k vz.length c with
    |true=>rfl
    |false=>rw[Bb hv,m] at hg;cases hg
   obtain⟨ae,bc,bx,bz⟩:=a8 m;have cm:Hid (CZ (bf,Eq,a0) (cs++[c]) (CG ctk s.data.toList inter k fs (M-(j+1)) q3 (vz++[(c.mx,c.my)]))):=Dm (by
    have h1:=hT.out;rw[show M-j=(M-(j+1))+1 by omega] at h1;exact cW h1 (by rw[ac,r]) bw)
   have ar:=a.cell bc ad bx;have af:=ar.below F;have au:CQ (I2 A X w.heap.size ae cv) w4 c (AD c sl):=bz (some A::some X::cv.ownBlock::E8 w.heap.size) fun j hm=>by
    have dk:=a.grown.size;rcases Ee.1 hm with e|hm
    ·exact Wga
    ·rcases Ee.1 hm with e|hm
     ·exact Wga
     ·rcases Ee.1 hm with e|hm
      ·exact AO.lt a.cel j e.symm
      ·have:=IK.1 hm;omega
   have av:CQ (I2 A X w.heap.size ae cv) w5 c (AD c sl):=au.kept (BF F none) fun j hj=>Wal;obtain⟨wQ,al⟩:=Ah (w5.alloc (.cells (AD c sl).toArray 77 (0,0)));obtain⟨Q,hQ⟩:=Ah w5.heap.size;have bd:Below w5.heap.size w5 wQ:=by rw[<-al];exact(Dn _ w5).alloc (B9 _) _
   have b0:wQ.heap[Q]? =some (.cells (AD c sl).toArray 77 (0,0)):=by rw[<-al,<-hQ];exact heap_alloc_new w5 _
   have b1:=af.below bd;have H:CQ (I2 A X w.heap.size ae cv) wQ c (AD c sl):=av.kept (BF bd none) fun j hj=>Wal;have cn:=(CQ.shape H).2;have co:=(CQ.shape H).1;have b2:∀(j:Nat) u,(AD c sl)[j]? =some u->wQ.cell? ⟨Q,j,none⟩=some u:=fun j u hu=>AA b0 hu;have q:=af.row;have dl:=AA (o:=3) q rfl;obtain⟨ri,rz,j0,j1,j2,j3,j4⟩:=Yi;have cp:cs.length<=10000:=Wbq;have cq:w5.heap[C]? =some (.cells (AD c sl).toArray 77 (0,0)):=by rw[bt.out];exact cj
   have cr:(prog.info? 77).map (·.size)=some (AD c sl).toArray.size:=by rw[bt.out];exact ba
   have ct:=Dm al;have dm:=Dm hQ;have cu:=Dm b2;have ag:=Dm b1;have dn:=Dm bc.rd;clear al hQ b2 bd b0 a ar af au av bz a8 ad a7 hb hg ac hT m r bw bx bc q a6
   go_wp2_with (first|(with_reducible refine BL rfl 77 _ _ rfl a9 ca 77 rfl rfl ba aq bs ?_;rw[bu.out,c9.out])|(with_reducible refine Nb rfl 77 _ rfl C tN 77 (AD c sl).toArray (0,0) _ cq Io rfl cr ?_)|(with_reducible refine bX rfl _ rfl c sl tN ?_;rw[ct.out,dm.out])|(at_builtin;refine O2 (V:=CQ (I2 A X w.heap.size ae cv) wQ) (w:=wQ) (c:=18) (bytes:=240) (base:=0) (v:=cv) (l:=cs) (y:=c) (vs:=AD c sl) (K:=Q) (cap:=1) rfl rfl Oy j0 j1 j2 j3 j4 sY ?d1 ?d2 ag.out.cel H co cn cu.out ?d3 ?d4 (Do _) ?_;(case d1=>kernel_rfl);(case d2=>kernel_rfl);(case d3=>(unfold maxLen;omega));(case d4=>omega);intro q9 da w9 cw b3 cx;have b4:=ag.out.app b3 cw cx;have b5:=(b3.block X ag.out.ord.2.2 fun e=>(ag.out.cown X e.symm).2.2.1 rfl).trans ag.out.row;have c6:=AA (o:=3) b5 rfl;have c7:=AL (o:=3) b5))
   go_roundw
   case rel=>exact⟨j+1,q3,cs++[c],ae,_,vz++[(c.mx,c.my)],tP,sX,b4,Dm (by rw[B8,ab.out];rfl),Dm (by rw[ai.out];simp[CP]),cm⟩
   case measure=>simp[intOf];omega
  ·have t1:decide ((j:Int)<(M:Int))=false:=sU;obtain rfl:M=j:=sX;have cy:Hid (bf=cs/\Eq=q2/\a0=0):=Dm (by
    have h1:=hT.out;rw[Ci] at h1;have h2:=h1.done;injection h2 with e1 h2;injection h2 with e2 e3;exact⟨e1,e2,e3⟩)
   have bb:=a.res;have q:=a.row;rw[aj.out] at q;have cz:=Dm a;have cp:cs.length<=10000:=Wbq;clear a hT
   go_wp2_with (first|(with_reducible refine Nb rfl 46 _ rfl X rfl 46 a5 (0,0) _ q Ip rfl d ?_)|(with_reducible refine AK rfl 46 _ _ rfl A a5 Y rfl rfl 46 bb d J O ?_;intro wz W D))
   refine Hb (C0 rfl _ _ A 46 _ (0,0) _ rfl W Ip rfl d) rfl ?_;obtain⟨b6,c1,c2,c3⟩:=cz.out.done tK D;obtain⟨rfl,rfl,rfl⟩:=cy.out;refine⟨b,id,qu,z,fs,0,_,_,0,0,a2.out,b7.out,rfl,_,by rw[aj.out];rfl,⟨rfl,br.out⟩,c2,⟨_,b6.rd⟩,fun _=>⟨a4,?_,c1,c3⟩⟩;rw[<-ai.out];exact b6
end
theorem Sm (l:List UInt8):LG ctk (A2 l):=fun _ _ _ _ _ _ a h=>VL (GX _) a h
theorem YQ {ct:CelT}{l:List UInt8}{inter:Bool}{k first:Int}:∀(n p:Nat) (vs:List (Int×Int)) (cs:List Cel) (q:Nat),CG ct l inter k first n p vs=(cs,q,0)->cs.length=n
 |0,p,vs,cs,q,h=>by
  rw[CG] at h;injection h with e1 _;subst e1
  rfl
 |n+1,p,vs,cs,q,h=>by
  rw[CG] at h;obtain⟨⟨c,z,f⟩,hc⟩:=Ah (ct inter (A2 l) (CY vs (AY k) first).1 (CY vs (AY k) first).2 p);rw[hc] at h;simp only at h;by_cases a:f=0
  case neg=>
   rw[Bb a] at h;injection h with _ h;injection h with _ h;exact absurd h a
  rw[Ba (fun x=>x a)] at h;cases hv:D0 k vs.length c with
  |false=>rw[hv,Bb rfl] at h;cases h
  |true=>
   rw[hv,Ba sY] at h;obtain⟨⟨b,y,g⟩,hr⟩:=Ah (CG ct l inter k first n z (vs++[(c.mx,c.my)]));rw[hr] at h;simp only at h;by_cases hg:g=0
   case neg=>
    rw[Bb hg] at h;injection h with _ h;injection h with _ h;exact absurd h hg
   rw[Ba (fun x=>x hg)] at h;subst hg;injection h with e1 h;subst e1;rw[An,YQ n z _ b y hr]
def YW (s:ByteArray)(rb p:Nat)(w:A5)(e:Ae)(a:A5):Prop:=
 ∃vs:List A0,e=.returned (.tuple #[.agg vs.toArray,.int .i64 (wtk ctk s.data.toList p).2.2])/\(vs.length=8/\∀u∈vs,u.oneCell'=true)/\w.grownBy a (some rb)/\(∃q,AE a rb s q)/\
  ((wtk ctk s.data.toList p).2.2=0->(∀(z:A5) (M:List (Option Nat)),(∀j,some j∈M->j<w.heap.size)->Yah M a z->ShV z (wtk ctk s.data.toList p).1 vs)/\AE a rb s (wtk ctk s.data.toList p).2.1)
theorem Qci:∃Y:Array A0,Y.size=8/\∀w,(zeroValue 39).run prog w=.ok (.agg Y) w:=⟨#[.int .i64 0,.int .i64 0,.int .i64 0,.bool false,.int .i64 0,.slice none 0 0,.slice none 0 0,.int .i64 0],rfl,KL tN⟩
theorem T6 {hd:Shd}{a:Option Aa}{n ca:Nat}{rv:A0}{z:Int}(h:rv.oneCell'=true):∀u∈AU hd (.slice a n ca) rv z,u.oneCell'=true:=by
 intro u b;simp only[AU,Ee,Eg,Ep] at b;rcases b with rfl|rfl|rfl|rfl|rfl|rfl|rfl|rfl
 all_goals first|rfl|exact h
theorem PF {vs:List A0}(h:∀u∈vs,u.oneCell'=true):vs.toArray.all (·.oneCell')=true:=by
 rw[Gb];exact fun v hv=>h v (by simpa using hv)
section
variable {N:Nat}{w:A5}{rb p:Nat}{s:ByteArray}
set_option maxRecDepth 100000 in
theorem jA (hr:AE w rb s p)(ht:Ybt N w)(hN:N<=rb)(hs:s.size<=1073741824):
  A9 prog 93 #[.pointer (some ⟨rb,0,none⟩)] w (YW s rb p w):=by
 obtain⟨Y,bh,eg⟩:=Qci;have bi:=To;obtain⟨cy,bj⟩:∃Z:Array A0,[Value.bool false,.int .i64 0,.int .i64 0,.slice none 0 0].toArray=Z:=⟨_,rfl⟩;have c2:cy.size=4:=by rw[<-bj];rfl
 rw[bj] at bi;obtain⟨A,hA⟩:=Ah w.heap.size;obtain⟨wA,ac⟩:=Ah (w.alloc (.cells Y 39 (0,0)));have bu:wA.heap[A]? =some (.cells Y 39 (0,0)):=by rw[<-ac,<-hA];exact heap_alloc_new w _
 have bk:Below w.heap.size w wA:=by rw[<-ac];exact(Dn _ w).alloc (B9 _) _
 have c3:wA.heap.size=A+1:=by rw[<-ac,<-hA];simp
 have eb:rb<A:=by rw[<-hA];exact hr.lt
 have ad:=pI wA rb s p (hr.below bk) sX;have c4:Hid (∀x,Yah [some rb] w x->Ybt N x):=Dm fun x hx=>ht.below (hx.under sX fun j hj=>by
  have e:=Df.1 hj;injection e with e;omega)
 unfold bK at ad;obtain⟨⟨hd,z0,f⟩,hk⟩:=Ah (shk s.data.toList p);rw[hk] at ad;dsimp only at ad;have bv:=Dm hk;have c5:=Dm ac;have bl:=Dm hA;have c8:=Dm bk;clear ac hA bk hr ht hk bj
 go_enter func93,ntmps93
 go_wp2_with fail
 rw[c5.out,bl.out];refine ad.mono ?_;rintro e w1 ⟨a,ca,rfl,ae,bw,bx,az⟩;clear ad;obtain⟨X,hX⟩:=Ah w1.heap.size;obtain⟨zs,k⟩:=Ah (AU hd (.slice a hd.supp.length ca) (.slice none 0 0) 0);obtain⟨w2,af⟩:=Ah (w1.alloc (.cells zs.toArray 39 (0,0)));have E:Below w1.heap.size w1 w2:=by rw[<-af];exact(Dn _ w1).alloc (B9 _) _
 have c9:w2.heap.size=X+1:=by rw[<-af,<-hX];simp
 have a0:w2.heap[X]? =some (.cells zs.toArray 39 (0,0)):=by rw[<-af,<-hX];exact heap_alloc_new w1 _
 have da:=az.size;have bm:=(E.block A sX).trans ((az.block A sX sU).trans bu);have bn:=bx.below E;have db:Hid (Yah [some rb] w w2):=Dm (((Yah.below c8.out).trans (Yah.one (L:=[some rb]) az fun j _ e=>Wae) fun j _ hm=>hm).trans (Yah.below (L:=[]) E) sV);have r:(prog.info? 39).map (·.size)=some zs.toArray.size:=Wbj;have R:Y.size=zs.toArray.size:=by rw[bh,<-k];rfl
 have I:∀u∈zs,u.oneCell'=true:=by rw[<-k];exact T6 rfl
 have T:=PF I;have bz:zs.length=8:=by rw[<-k];rfl
 have U:=Dm I;have b0:=Dm hX;have bo:=Dm af;have J:=Dm k;rw[k];clear af k hX bu I;by_cases hf:f=0
 case neg=>
  have tf:(f != 0)=true:=Wa8;have ab:=Dm (bN (ct:=ctk) bv.out hf);have eh:=Dm hf;clear hf
  go_wp2_with (first|(with_reducible refine BL rfl 39 _ _ rfl zs.toArray Y 39 rfl rfl r R T ?_;rw[bo.out,b0.out])|(with_reducible refine Nb rfl 39 _ rfl X rfl 39 zs.toArray (0,0) _ a0 Oz rfl r ?_)|(with_reducible refine AK rfl 39 _ _ rfl A zs.toArray Y rfl rfl 39 bm r R T ?_;intro wz ag F))
  refine Hb (C0 rfl _ _ A 39 _ (0,0) _ rfl ag Oz rfl r) rfl ?_;refine⟨zs,by rw[ab.out];rfl,⟨bz,U.out⟩,?_,⟨_,bn.grown F sX⟩,fun e=>absurd (by rw[ab.out] at e;exact e) eh.out⟩;exact(db.out.trans (Yah.one (L:=[some A]) F fun j _ e=>Wae) fun j hj hm=>by have e:=Df.1 hm;injection e with e;have:=bl.out;omega).lone fun j _ hm=>Wan
 subst hf;have tf:((0:Int) != 0)=false:=rfl;have cb:=Y4w rb hd (.slice a hd.supp.length ca) (.slice none 0 0) 0 w2;rw[J.out] at cb
 go_wp2_with (first|(with_reducible refine BL rfl 39 _ _ rfl zs.toArray Y 39 rfl rfl r R T ?_;rw[bo.out,b0.out])|(with_reducible refine Nb rfl 39 _ rfl X rfl 39 zs.toArray (0,0) _ a0 Oz rfl r ?_))
 refine cb.mono ?_;rintro e w3 ⟨rfl,a1,B⟩;obtain⟨G,hG⟩:=Ah (w2.heap.size+1);rw[hG] at a1 ⊢;have dc:G<w3.heap.size:=(Am.1 a1).1;have a8:∀x,a=some x->A<x.block:=fun x hx=>by have:=bw x hx;rw[c3] at this;exact this
 have dd:=b0.out;have de:=B.size;have d:Y0c w w3 G rb A X s z0 hd a ca (.slice none 0 0) (.slice none 0 0) [] 0 Y []:={
  rdr:={
   blk:=a1
   rd:=bn.below B
   vec:=Dj ..
   ne:=⟨by have:=bl.out;omega,fun j hj=>Wal⟩}
  res:=(B.block A sX).trans bm
  sht:=by rw[J.out];exact(B.block X (by omega)).trans a0
  row:=E3.nil _ _
  sup:=(ae.below E).below B
  supn:=by
   rcases ae with h|⟨b,o,e,df,_⟩
   ·exact .inl (Dh h)
   ·refine .inr fun x hx=>?_;rw[e] at hx;injection hx with hx;have h1:=a8 _ e;subst hx;refine⟨vY,fun hm=>?_⟩;have ei:=bl.out;rcases EG.1 hm with e|e|e|e|e|e
    ·cases e
    ·simp only at h1 e;omega
    ·simp only at e;omega
    ·simp only at e;omega
    ·cases e
    ·simp only at h1 e;omega
  ord:=by have:=bl.out;have:=b0.out;omega
  low:=by have:=bl.out;omega
  own:=fun j hj=>Wal
  rown:=fun j hj=>Wal
  grown:=db.out.trans (Yah.below (L:=[]) B) sV}
 obtain⟨H,b1⟩:∃n:Nat,(BE hd.fmt).toNat=n:=⟨_,rfl⟩;obtain⟨ej,ek,-,-,-⟩:=OU hd.fmt;have b2:BE hd.fmt=(H:Int):=sX;have k2:=d.rdr.cell (o:=2) rfl;rw[b2] at k2;obtain⟨⟨c0,Eq,c1⟩,hE⟩:=Ah (CB ctk s.data.toList hd.inter hd.fmt H 0 z0 [] 0);have ec:Hid (CZ (c0,Eq,c1) [] (CB ctk s.data.toList hd.inter hd.fmt H 0 z0 [] 0)):=Dm (by rw[hE];exact CZ.start _);have dg:Hid (CB ctk s.data.toList hd.inter hd.fmt (BE hd.fmt).toNat 0 z0 [] 0=(c0,Eq,c1)):=Dm (by rw[b1];exact hE);have dh:H<=100:=sX;have el:=(LL.1 (Si bv.out).2.1).2.2.1;have di:=bl.out;clear cb bx bn az E B c9 a0 bm bw a8 ae da dd de a1 dc hG r R T bz U J bo b0 b1 ej ek b2 hE db
 go_wp2
 go_loopw [26] (fun t wx=>∃(i q:Nat) (rs:List RowP) (rv vv:A0) (vs:List (Int×Int)) (fs:Int),t=.int .i64 (i:Int)/\i<=H/\Y0c w wx G rb A X s q hd a ca vv rv vs fs Y rs/\Hid (rs.length=i)/\Hid (vs.length<=i*10000)/\Hid (CZ (c0,Eq,c1) rs (CB ctk s.data.toList hd.inter hd.fmt (H-i) i q vs fs))) (fun t _=>H-(intOf t).toNat)
 case atStart=>exact⟨0,z0,[],_,_,[],0,rfl,Do _,d,Dm rfl,Dm (Do _),ec⟩
 case round=>
  clear d ec k2;obtain⟨i,q,rs,rv,vv,vs,fs,rfl,hi,d,a2,ah,hT⟩:=hrel;have a9:rv.oneCell'=true:=(MZ d.row.choose_spec.2).2.2;have I:∀(z:Int),∀u∈AU hd (.slice a hd.supp.length ca) rv z,u.oneCell'=true:=fun z=>T6 a9;obtain⟨zs,k⟩:=Ah (AU hd (.slice a hd.supp.length ca) rv 0);have r:(prog.info? 39).map (·.size)=some zs.toArray.size:=Wbj;have R:Y.size=zs.toArray.size:=by rw[bh,<-k];rfl
  have T:zs.toArray.all (·.oneCell')=true:=by rw[<-k];exact PF (I 0)
  have U:=Dm I;have J:=Dm k;clear k I a9;by_cases df:i<H
  ·have t1:decide ((i:Int)<(H:Int))=true:=sU;have ho:=d.ord;have ai:vs.length<=1000000:=by
    have:=ah.out;have:i*10000<=1000000:=sX;omega
   have cc:=Qb1 i d.rdr (c4.out _ d.grown) hN sX (fun j hj=>by have:=(d.own j hj).1;omega) ai hs sX
   go_wp2_with fail
   refine cc.mono ?_;rintro e O ⟨b,id,qu,z,b3,f,cs,q2,h,g,aj,ak,hg,dj,rfl,⟨al,am⟩,an,⟨q',W⟩,bp⟩;clear cc;obtain⟨D,hD⟩:=Ah O.heap.size;obtain⟨ba,ao⟩:=Ah dj.toArray;rw[ao];obtain⟨w5,a3⟩:=Ah (O.alloc (.cells ba 46 (0,0)));have P:Below O.heap.size O w5:=by rw[<-a3];exact(Dn _ O).alloc (B9 _) _
   have dk:w5.heap[D]? =some (.cells ba 46 (0,0)):=by rw[<-a3,<-hD];exact heap_alloc_new O _
   have a4:ba.size=4:=by rw[<-ao];simpa using al
   have b4:(prog.info? 46).map (·.size)=some ba.size:=by rw[a4];kernel_rfl
   have bb:cy.size=ba.size:=by rw[c2,a4]
   have b5:ba.all (·.oneCell')=true:=by rw[<-ao];exact PF am
   have ed:=Dm hD;have b6:=Dm a3;have hb:=d.bad an;have em:=an.size;clear hD a3 am;by_cases C:g=0
   case neg=>
    have tg:(g != 0)=true:=by rw[Fj];exact C
    obtain⟨b7,E,B⟩:=hb;have dl:=(P.block A sX).trans b7;have b8:=(P.block X sX).trans E;rw[J.out] at b8;have ab:Hid (wtk ctk s.data.toList p=(GR,p,g)):=Dm (W6 bv.out (by
     rw[dg.out];have h1:=hT.out;rw[show H-i=(H-i-1)+1 by omega] at h1;by_cases hf:f=0
     ·rw[Ba (fun x=>x hf)] at hg;subst hf hg;exact WI h1 aj ak C
     ·rw[Bb hf] at hg;subst hg;exact Z3 h1 aj hf) C)
    have en:=Dm (B.trans (Yah.below (L:=[]) P) sV);have dm:=W.below P;have dn:=Dm C;have eo:=P.size;clear C hg bp d hT a2 ah aj ak b7 E B W an ai ao a4 al
    go_wp2_with (first|(with_reducible refine BL rfl 46 _ _ rfl ba cy 46 rfl rfl b4 bb b5 ?_;rw[b6.out,ed.out])|(with_reducible refine Nb rfl 39 _ rfl X rfl 39 zs.toArray (0,0) _ b8 Oz rfl r ?_)|(with_reducible refine AK rfl 39 _ _ rfl A zs.toArray Y rfl rfl 39 dl r R T ?_;intro wz ag F))
    refine Hb (C0 rfl _ _ A 39 _ (0,0) _ rfl ag Oz rfl r) rfl ?_;refine⟨zs,by rw[ab.out];rfl,⟨by rw[<-J.out];rfl,by rw[<-J.out];exact U.out 0⟩,?_,⟨_,dm.grown F sX⟩,fun e=>absurd (by rw[ab.out] at e;exact e) dn.out⟩;exact(en.out.trans (Yah.one (L:=[some A]) F fun j _ e=>Wae) fun j hj hm=>Waf).lone fun j _ hm=>Wan
   have tg:(g != 0)=false:=by rw[C];rfl
   have b9:f=0:=by
    by_cases h1:f=0
    ·exact h1
    ·rw[Bb h1] at hg;exact absurd (hg.symm.trans C) h1
   have dp:h=0:=by
    rw[Ba (fun x=>x b9)] at hg;exact hg.symm.trans C
   subst b9 dp;obtain⟨a5,cd,ce,hF⟩:=bp C;obtain⟨sl,cf,-⟩:=hF [] (fun j hj=>Wal);subst cf;have ap:=YQ _ _ _ _ _ ak;have dq:Hid (CZ (c0,Eq,c1) (rs++[⟨b,id,qu,cs⟩]) (CB ctk s.data.toList hd.inter hd.fmt (H-(i+1)) (i+1) q2 (vs++CP cs) b3)):=Dm (by
    have h1:=hT.out;rw[show H-i=(H-(i+1))+1 by omega] at h1;exact dO h1 aj ak)
   have bc:=d.call cd an ce;have aq:=bc.below P;have ep:=d.grown.size;have ar:=hF (some A::some X::some G::rv.ownBlock::E8 w.heap.size) fun j hm=>by
    rcases Ee.1 hm with e|hm
    ·exact Wga
    ·rcases Ee.1 hm with e|hm
     ·exact Wga
     ·rcases Ee.1 hm with e|hm
      ·exact Wga
      ·rcases Ee.1 hm with e|hm
       ·exact AO.lt d.row j e.symm
       ·have:=IK.1 hm;omega
   have au:CT (HA A X G w.heap.size a5 rv) w5 ⟨b,id,qu,cs⟩ [.bool b,.int .i64 id,.int .i64 qu,sl]:=CT.kept ar (BF P none) fun j hj=>Wal;obtain⟨wQ,a6⟩:=Ah (w5.alloc (.cells #[.bool b,.int .i64 id,.int .i64 qu,sl] 46 (0,0)));obtain⟨Q,hQ⟩:=Ah w5.heap.size;have bq:Below w5.heap.size w5 wQ:=by rw[<-a6];exact(Dn _ w5).alloc (B9 _) _
   have cg:wQ.heap[Q]? =some (.cells ([Value.bool b,.int .i64 id,.int .i64 qu,sl]:List A0).toArray 46 (0,0)):=by rw[<-a6,<-hQ];exact heap_alloc_new w5 _
   have bd:=aq.below bq;have av:CT (HA A X G w.heap.size a5 rv) wQ ⟨b,id,qu,cs⟩ [.bool b,.int .i64 id,.int .i64 qu,sl]:=au.kept (BF bq none) fun j hj=>Wal;have dr:=(CT.shape av).2;have ch:∀(j:Nat) u,([Value.bool b,.int .i64 id,.int .i64 qu,sl]:List A0)[j]? =some u->wQ.cell? ⟨Q,j,none⟩=some u:=fun j u hu=>AA cg hu;have eq:=AA (o:=6) aq.sht rfl;have ds:w5.heap[D]? =some (.cells ([Value.bool b,.int .i64 id,.int .i64 qu,sl]:List A0).toArray 46 (0,0)):=by rw[ao];exact dk
   have dt:(prog.info? 46).map (·.size)=some ([Value.bool b,.int .i64 id,.int .i64 qu,sl]:List A0).toArray.size:=tN;obtain⟨ri,rz,j0,j1,j2,j3,j4⟩:=YF;have ee:rs.length<=100:=by have:=a2.out;omega
   have bf:(vs++CP cs).length<=(i+1)*10000:=by
    rw[B8];unfold CP;rw[Kh,ap];have:=ah.out;have:=PK hd.fmt;omega
   have du:=Dm a6;have er:=Dm hQ;have dv:=Dm ch;have aw:=Dm bd;have dw:=Dm bf;clear a6 hQ ch bq cg d bc aq ar au hF bp an W hb hg aj ak hT C ce cd ai ah ap bd bf a4 al
   go_wp2_with (first|(with_reducible refine BL rfl 46 _ _ rfl ba cy 46 rfl rfl b4 bb b5 ?_;rw[b6.out,ed.out])|(with_reducible refine Nb rfl 46 _ rfl D rfl 46 ([Value.bool b,.int .i64 id,.int .i64 qu,sl]:List A0).toArray (0,0) _ ds Ip rfl dt ?_)|(with_reducible refine ZU rfl _ rfl (.bool b) (.int .i64 id) (.int .i64 qu) sl rfl ?_;rw[du.out,er.out])|(at_builtin;refine O2 (V:=CT (HA A X G w.heap.size a5 rv) wQ) (w:=wQ) (c:=4) (bytes:=48) (base:=0) (v:=rv) (l:=rs) (y:=⟨b,id,qu,cs⟩) (vs:=[Value.bool b,.int .i64 id,.int .i64 qu,sl]) (K:=Q) (cap:=1) rfl rfl underlying37 j0 j1 j2 j3 j4 sY ?d1 ?d2 aw.out.row av rfl dr dv.out ?d3 ?d4 (Do _) ?_;(case d1=>kernel_rfl);(case d2=>kernel_rfl);(case d3=>(unfold maxLen;omega));(case d4=>omega);intro q9 ef w9 dx ci dy;have cj:=aw.out.app ci dx dy;have ck:=(ci.block X (by have:=aw.out.ord;omega) fun e=>(aw.out.rown X e.symm).2.2.1 rfl).trans aw.out.sht;have c6:=AA (o:=6) ck rfl;have c7:=AL (o:=6) ck))
   go_roundw
   case rel=>exact⟨i+1,q2,rs++[⟨b,id,qu,cs⟩],_,a5,_,b3,tP,sX,cj,Dm (by rw[B8,a2.out];rfl),dw,dq⟩
   case measure=>simp[intOf];omega
  ·have t1:decide ((i:Int)<(H:Int))=false:=sU;obtain rfl:H=i:=sX;have cl:Hid (CB ctk s.data.toList hd.inter hd.fmt (BE hd.fmt).toNat 0 z0 [] 0=(rs,q,0)):=Dm (by
    have h1:=hT.out;rw[Ci] at h1;rw[dg.out];exact h1.done)
   have cz:=Y4d d.rdr hs;have ho:=d.ord;have es:=d.low;have cm:=Dm d;clear hT dg ah
   go_wp2_with fail
   refine cz.mono ?_;rintro e O ⟨n,rfl,hg4,⟨q',W⟩,hz⟩;have a7:=(hg4.block X sX sU).trans d.sht;have cn:=(hg4.block A sX sU).trans d.res;have c7:=AA (o:=7) a7 rfl;have f7:=AL (o:=7) a7;obtain⟨m,aa⟩:=Ah (AU hd (.slice a hd.supp.length ca) rv (n:Int));have dz:(O.setCell ⟨X,7,none⟩ (.int .i64 (n:Int))).heap[X]? =some (.cells m.toArray 39 (0,0)):=by rw[<-aa];exact B3 (o:=7) _ a7
   have d0:(O.setCell ⟨X,7,none⟩ (.int .i64 (n:Int))).heap[A]? =some (.cells Y 39 (0,0)):=by rw[Ib _ _ _ _ (show A≠X by omega)];exact cn
   have co:∀y,AE O rb s y->AE (O.setCell ⟨X,7,none⟩ (.int .i64 (n:Int))) rb s y:=fun y h=>⟨by rw[Ib _ _ _ _ (show rb≠X by omega)];exact h.1,h.2⟩;have cp:=Yah.set (w:=O) (p:=⟨X,7,none⟩) (L:=[some X]) (.int .i64 (n:Int)) (Df.2 rfl);have ax:(prog.info? 39).map (·.size)=some m.toArray.size:=by rw[show m.toArray.size=8 by rw[<-aa];rfl];kernel_rfl
   have cq:Y.size=m.toArray.size:=by rw[bh,<-aa];rfl
   have cr:m.toArray.all (·.oneCell')=true:=by rw[<-aa];exact PF (U.out n)
   have br:=Dm aa;have d5:=Dm hg4;have d6:=Dm cp;have d7:=Dm co;have d8:=Dm hz;have cu:=Dm W;obtain⟨fE,bs⟩:=Ah (Ru s.data.toList q);rw[bs];have cv:=Dm bs;clear a7 cn aa hg4 cp co hz W d cz bs
   go_upto_region 14 with fail
   generalize O.setCell ⟨X,7,none⟩ (.int .i64 (n:Int))=w7 at *;clear c7 f7
   go_wp2_with (first|(with_reducible refine Nb rfl 39 _ rfl X rfl 39 m.toArray (0,0) _ dz Oz rfl ax ?_)|(with_reducible refine AK rfl 39 _ _ rfl A m.toArray Y rfl rfl 39 d0 ax cq cr ?_;intro wz ag F))
   refine Hb (C0 rfl _ _ A 39 _ (0,0) _ rfl ag Oz rfl ax) rfl ?_;have cw:Yah [some rb,some X,some A] wr wz:=by
    have g1:Yah [some rb,some X,some A] wr O:=Yah.one d5.out fun j _ e=>Wba;have g2:=g1.trans d6.out fun j _ hm=>Waj;exact g2.trans (Yah.one (L:=[some A]) F fun j _ e=>Wae) fun j _ hm=>Wak
   have cx:=cm.out.done cw;have d9:∀(z:A5) (M:List (Option Nat)),(∀j,some j∈M->j<w.heap.size)->Yah M wz z->ShV z ⟨hd,rs,(n:Int)⟩ m:=fun z M hM hz=>by
    refine cm.out.lies (S:=⟨hd,rs,(n:Int)⟩) (M:=some X::some A::some rb::M) ((cw.mono fun j _ hm=>?_).trans hz fun j _ hm=>?_) (fun j hm=>?_) ⟨rfl,rfl⟩ br.out.symm tK (by have:=a2.out;unfold maxLen;omega)
    ·simp only[Ee,Eg,Ep] at hm ⊢;rcases hm with e|e|e
     ·exact .inr (.inr (.inl e))
     ·exact .inl e
     ·exact .inr (.inl e)
    ·exact Ey _ (Ey _ (Ey _ hm))
    ·simp only[Ee,Ny] at hm;rcases hm with e|e|e|e
     ·exact .inl e
     ·exact .inr (.inl e)
     ·exact .inr (.inr sX)
     ·exact .inr (.inr (hM j e))
   have bg:m.length=8/\∀u∈m,u.oneCell'=true:=⟨by rw[<-br.out];rfl,by rw[<-br.out];exact U.out n⟩;have bt:∀y,AE O rb s y->AE wz rb s y:=fun y h=>(d7.out y h).grown F sX;by_cases h0:AB s.data.toList q (gap q)=0
   ·have ay:fE=0:=by rw[<-cv.out];exact Bb h0
    obtain⟨ea,bi⟩:=d8.out (Bb h0);have ab:=XT (ct:=ctk) bv.out cl.out h0;rw[<-ea] at ab;refine⟨m,by rw[ab,ay];rfl,bg,cx,⟨_,bt _ cu.out⟩,fun _=>?_⟩;rw[ab];exact⟨d9,bt _ bi⟩
   ·have ay:fE=5:=by rw[<-cv.out];exact Ba h0
    have ab:=ZS (ct:=ctk) bv.out cl.out h0;exact⟨m,by rw[ab,ay];rfl,bg,cx,⟨_,bt _ cu.out⟩,fun e=>by rw[ab] at e;cases e⟩
end
def zeroS:List A0:=AU EJ (.slice none 0 0) (.slice none 0 0) 0
theorem Qdc (w:A5):ShV w GR zeroS:=⟨none,none,0,0,rfl,Do _,Do _,BO.nil _ _,.inl rfl⟩
theorem Qp3 {ct:CelT}{l:List UInt8}{p:Nat}(h:(wtk ct l p).2.2≠0):wtk ct l p=(GR,p,(wtk ct l p).2.2):=by
 unfold wtk at h ⊢;obtain⟨⟨hd,q,f⟩,hk⟩:=Ah (shk l p);rw[hk] at h ⊢;simp only at h ⊢;by_cases a:f=0
 ·rw[Ba (fun x=>x a)] at h ⊢;obtain⟨⟨rs,z,g⟩,hr⟩:=Ah (CB ct l hd.inter hd.fmt (BE hd.fmt).toNat 0 q [] 0);rw[hr] at h ⊢;simp only at h ⊢;by_cases hg:g=0
  ·rw[Ba (fun x=>x hg)] at h ⊢;by_cases b:AB l z (gap z)=0
   ·rw[Ba (fun x=>x b)] at h;exact absurd rfl h
   ·rw[Bb b]
  ·rw[Bb hg]
 ·rw[Bb a]
def VU (s:ByteArray)(rb p:Nat)(w:A5)(e:Ae)(a:A5):Prop:=
 ∃vs:List A0,e=.returned (.tuple #[.agg vs.toArray,.int .i64 (wtk ctk s.data.toList p).2.2])/\(∀(x:A5) (L:List (Option Nat)),(∀j,some j∈L->j<w.heap.size)->Yah L a x->ShV x (wtk ctk s.data.toList p).1 vs)/\AE a rb s (wtk ctk s.data.toList p).2.1/\w.grownBy a (some rb)
theorem aR:∀w,(zeroValue 39).run prog w=.ok (.agg zeroS.toArray) w:=KL tN
set_option maxRecDepth 100000 in
theorem Qhv {N:Nat}{w:A5}{rb p:Nat}{s:ByteArray}(hr:AE w rb s p)(ht:Ybt N w)(hN:N<=rb)(hs:s.size<=1073741824):
  A9 prog 61 #[.pointer (some ⟨rb,0,none⟩)] w (VU s rb p w):=by
 have hp:=hr.2.1;obtain⟨Y,D⟩:=Ah zeroS.toArray;have ab:=aR;rw[D] at ab;have E:Y.size=8:=by rw[<-D];rfl
 have F:(prog.info? 39).map (·.size)=some Y.size:=by rw[E];kernel_rfl
 have ac:Y.all (·.oneCell')=true:=by rw[<-D];exact PF (T6 rfl)
 obtain⟨A,G⟩:=Ah w.heap.size;obtain⟨wA,c⟩:=Ah (w.alloc (.cells Y 39 (0,0)));have H:wA.heap[A]? =some (.cells Y 39 (0,0)):=by rw[<-c,<-G];exact heap_alloc_new w _
 have h:Below w.heap.size w wA:=by rw[<-c];exact(Dn _ w).alloc (B9 _) _
 have al:wA.heap.size=A+1:=by rw[<-c,<-G];simp
 have ai:rb<A:=by rw[<-G];exact hr.lt
 have m:=hr.below h;have ct:=jA m (ht.below (h.mono sX)) hN hs;have a:=Qp3 (ct:=ctk) (l:=s.data.toList) (p:=p);unfold YW at ct;unfold VU;obtain⟨⟨S,q,f⟩,hk⟩:=Ah (wtk ctk s.data.toList p);rw[hk] at ct a ⊢;dsimp only at ct a ⊢;have ad:=Dm c;have aa:=Dm G;have ae:=Dm h;have am:=Dm D;have I:=Dm a;clear c G h hr ht hk D a
 go_enter func61,ntmps61
 go_wp2_with fail
 rw[ad.out,aa.out];refine(EF _ _ _ _ m).mono ?_;rintro e u ⟨rfl,rfl⟩
 go_wp2_with fail
 refine ct.mono ?_;rintro e C ⟨vs,rfl,⟨J,K⟩,i,⟨q',M⟩,n⟩;clear ct;obtain⟨Z,O⟩:=Ah vs.toArray;rw[O];have o:Z.size=8:=by rw[<-O];simpa using J
 have d:(prog.info? 39).map (·.size)=some Z.size:=by rw[o];kernel_rfl
 have r:Y.size=Z.size:=by rw[E,o]
 have t:Z.all (·.oneCell')=true:=by rw[<-O];exact PF K
 obtain⟨X,hX⟩:=Ah C.heap.size;obtain⟨w2,k⟩:=Ah (C.alloc (.cells Z 39 (0,0)));have b:Below C.heap.size C w2:=by rw[<-k];exact(Dn _ C).alloc (B9 _) _
 have P:w2.heap[X]? =some (.cells Z 39 (0,0)):=by rw[<-k,<-hX];exact heap_alloc_new C _
 have an:=i.size;have v:=(b.block A sX).trans ((i.block A sX sU).trans H);have Q:=M.below b;have aj:Hid (Yah [some rb] w w2):=Dm (((Yah.below ae.out).trans (Yah.one (L:=[some rb]) i fun j _ e=>Wae) fun j _ hm=>hm).trans (Yah.below (L:=[]) b) sV);have ak:=Dm hX;have ao:=Dm O;have R:=Dm k;clear hX O k o J K H m M i;by_cases y:f=0
 ·have tf:(f != 0)=false:=by rw[y];rfl
  obtain⟨T,U⟩:=n y;have V:=U.below b;have ap:=Dm y;have af:=Dm b;have ag:=Dm T;clear n y b T U
  go_wp2_with (first|(with_reducible refine BL rfl 39 _ _ rfl Z Y 39 rfl rfl d r t ?_;rw[R.out,ak.out])|(with_reducible refine Nb rfl 39 _ rfl X rfl 39 Z (0,0) _ P Oz rfl d ?_)|(with_reducible refine AK rfl 39 _ _ rfl A Z Y rfl rfl 39 v d r t ?_;intro wz z g))
  refine Hb (C0 rfl _ _ A 39 _ (0,0) _ rfl z Oz rfl d) rfl ?_;have gA:Yah [some A] w2 wz:=Yah.one g fun j _ e=>Wae;refine⟨vs,by rw[ap.out,ao.out];rfl,(fun x L hL hx=>ag.out x (some A::L) (fun j hm=>by
   rcases Ee.1 hm with e|hm
   ·exact Wga
   ·have:=hL j hm;have:=aa.out;omega) (((Yah.below af.out).trans gA fun j _ hm=>Wai).trans hx fun j _ hm=>Ey _ hm)),V.grown g sX,?_⟩
  exact(aj.out.trans gA fun j hj hm=>by have e:=Df.1 hm;injection e with e;have:=aa.out;omega).lone fun j _ hm=>Wan
 ·have tf:(f != 0)=true:=by rw[Fj];exact y
  have a:=I.out y;have aq:=Dm a;have ar:=b.size;clear n y b a
  go_wp2_with (with_reducible refine BL rfl 39 _ _ rfl Z Y 39 rfl rfl d r t ?_;rw[R.out,ak.out])
  refine(GQ _ _ _ _ (p:Int) Q sX sX).mono ?_;rintro e w3 ⟨rfl,W,B⟩;rw[Dp] at W;have ah:=(B.block A sX sU).trans v;have au:=B.size;clear P v Q
  go_wp2_with (with_reducible refine AK rfl 39 _ _ rfl A Y Y rfl rfl 39 ah F rfl ac ?_;intro wz z g)
  refine Hb (C0 rfl _ _ A 39 _ (0,0) _ rfl z Oz rfl F) rfl ?_;have hq:=aq.out;injection hq with e1 e2;injection e2 with e2 _;subst e1 e2;refine⟨zeroS,by rw[am.out];rfl,fun x _ _ _=>Qdc x,W.grown g sX,?_⟩;refine((aj.out.trans (Yah.one (L:=[some rb]) B fun j _ e=>Wae) fun j _ hm=>hm).trans (Yah.one (L:=[some A]) g fun j _ e=>Wae) fun j hj hm=>?_).lone fun j _ hm=>Wan;have e:=Df.1 hm;injection e with e;have:=aa.out;omega
def W3 (s:ByteArray)(rb p:Nat)(done:List ShP)(w:A5)(e:Ae)(a:A5):Prop:=
 ∃vs:List A0,e=.returned (.tuple #[.agg vs.toArray,.int .i64 (G2 (wtk ctk s.data.toList p).2.2 done.length (CA (BZ done) (wtk ctk s.data.toList p).1))])/\ShK (E8 w.heap.size) a (wtk ctk s.data.toList p).1 vs/\AE a rb s (wtk ctk s.data.toList p).2.1/\w.grownBy a (some rb)
set_option maxRecDepth 100000 in
theorem Y67 {N:Nat}{w:A5}{rb p:Nat}{s:ByteArray}{done:List ShP}{q:Option Aa}{cap:Nat}(hr:AE w rb s p)(ht:Ybt N w)(hN:N<=rb)(hs:s.size<=1073741824)(hd:∀x,w.grownBy x (some rb)->HL x q done)(hl:done.length<=64):
  A9 prog 32 #[.pointer (some ⟨rb,0,none⟩),.slice q done.length cap] w (W3 s rb p done w):=by
 obtain⟨Y,hY⟩:=Ah zeroS.toArray;have ac:=aR;rw[hY] at ac;have ad:Y.size=8:=by rw[<-hY];rfl
 obtain⟨A,O⟩:=Ah w.heap.size;obtain⟨wA,m⟩:=Ah (w.alloc (.cells Y 39 (0,0)));have P:wA.heap[A]? =some (.cells Y 39 (0,0)):=by rw[<-m,<-O];exact heap_alloc_new w _
 have t:Below w.heap.size w wA:=by rw[<-m];exact(Dn _ w).alloc (B9 _) _
 have an:wA.heap.size=A+1:=by rw[<-m,<-O];simp
 have am:rb<A:=by rw[<-O];exact hr.lt
 have ct:=Qhv (hr.below t) (ht.below (t.mono sX)) hN hs;unfold VU at ct;unfold W3;obtain⟨⟨S,q2,f⟩,hk⟩:=Ah (wtk ctk s.data.toList p);rw[hk] at ct ⊢;dsimp only at ct ⊢;obtain⟨R,hR⟩:=Ah (G2 f done.length (CA (BZ done) S));rw[hR];have aa:=Dm hR;have ae:=Dm m;have af:=Dm O;have ag:=Dm t;have ah:=Dm hd;clear m O hr ht hk hY hd t hR
 go_enter func32,ntmps32
 go_wp2_with fail
 rw[ae.out,af.out];refine ct.mono ?_;rintro e u ⟨vs,rfl,c,Q,v⟩;clear ct;have y:=c u [] sV (Yah.refl _ _);have G:=y.shape.1;have d:=y.ones;obtain⟨X,hX⟩:=Ah u.heap.size;obtain⟨l,o⟩:=Ah (u.alloc (.cells vs.toArray 39 (0,0)));have g:Below u.heap.size u l:=by rw[<-o];exact(Dn _ u).alloc (B9 _) _
 have ai:l.heap.size=X+1:=by rw[<-o,<-hX];simp
 have r:l.heap[X]? =some (.cells vs.toArray 39 (0,0)):=by rw[<-o,<-hX];exact heap_alloc_new u _
 have ao:=v.size;have B:=(g.block A sX).trans ((v.block A sX sU).trans P);have T:=Q.below g;have U:=ShV.below g _ _ y;have aj:Yah [some rb] w l:=((Yah.below ag.out).trans (Yah.one (L:=[some rb]) v fun j _ e=>Wae) fun j _ hm=>hm).trans (Yah.below (L:=[]) g) sV;have ak:=Dm (fun(z:A5) (V:Below l.heap.size l z)=>((aj.trans (Yah.below (L:=[]) V) sV).lone fun j _ hm=>Wan:w.grownBy z (some rb)));have C:=Dm (fun(z D:A5) (V:Below l.heap.size l z) (b:z.grownBy D (some A))=>(by
  have gA:Yah [some A] z D:=Yah.one b fun j _ e=>Wae;have al:Below u.heap.size u z:=g.trans (V.mono g.size);refine⟨ShK.low fun x L hL hx=>c x (some A::L) (fun j hm=>?_) (((Yah.below (L:=some A::L) al).trans gA fun j _ hm=>Wai).trans hx fun j _ hm=>Ey _ hm),(T.below V).grown b sU,?_⟩
  ·rcases Ee.1 hm with e|e
   ·exact Wga
   ·have:=hL j e;have:=af.out;omega
  ·exact((aj.trans (Yah.below (L:=[]) V) sV).trans gA fun j hj hm=>(by have e:=Df.1 hm;injection e with e;have:=af.out;omega)).lone fun j _ hm=>Wan:ShK (E8 w.heap.size) D S vs/\AE D rb s q2/\w.grownBy D (some rb)))
 have a:(prog.info? 39).map (·.size)=some vs.toArray.size:=by rw[show vs.toArray.size=8 from G];kernel_rfl
 have i:Y.size=vs.toArray.size:=by rw[ad];exact G.symm
 have ab:=Dm hX;have H:=Dm o;have E:Below l.heap.size l l:=Dn _ _;clear hX o c Q v y g aj T P G hs;by_cases hf:f=0
 case neg=>
  have tf:(f != 0)=true:=Wa8;have I:=Dm (show R=f by rw[<-aa.out];exact Bb hf);clear hf
  exact Wf7
 subst hf;have tf:((0:Int) != 0)=false:=rfl;by_cases J:done.length=64
 ·have I:=Dm (show R=13 by rw[<-aa.out];unfold G2;rw[Ba sY,Bb sX]);rw[J];clear J hl ah ak
  exact Wf7
 have cf:=YJ (w:=l) q cap done U (ah.out _ (ak.out _ E)) tK;have K:=Dm (show CA (BZ done) S=false->R=11 from fun h=>by rw[<-aa.out];unfold G2;rw[Ba (by decide),Ba (by omega),Bb h]);have M:=Dm (show CA (BZ done) S=true->R=0 from fun h=>by rw[<-aa.out];unfold G2;rw[Ba (by decide),Ba (by omega),Ba (by rw[h];decide)]);generalize CA (BZ done) S=fo at *;generalize done.length=n at *;have t64:((n:Int)==64)=false:=uC;clear J hl ah ak U
 go_wp2_with (first|(with_reducible refine BL rfl 39 _ _ rfl vs.toArray Y 39 rfl rfl a i d ?_;rw[H.out,ab.out])|(with_reducible refine Nb rfl 39 _ rfl X rfl 39 vs.toArray (0,0) _ r Oz rfl a ?_))
 refine cf.mono ?_;rintro e w3 ⟨rfl,F⟩;have W:=(F.block A Wbq).trans B;have Z:=(F.block X sX).trans r;clear cf B r E ai;cases fo with
 |false=>
  have I:=Dm (K.out rfl);exact Wf9
 |true=>
  have I:=Dm (M.out rfl);exact Wf9
structure Y0a (w0 w:A5) (A n:Nat) (v:A0) (done:List ShP):Prop where
 ord:w0.heap.size=A/\A+2<=n/\n<=w.heap.size
 low:Below A w0 w
 res:w.heap[A]? =some (.cells [.slice none 0 0,.bool false].toArray 24 (0,0))
 loc:w.heap[A+1]? =some (.cells [v,.bool false].toArray 24 (0,0))
 own:HQ n w v done
section
variable {w0 w z:A5}{A n:Nat}{v:A0}{done:List ShP}
theorem Y0a.turn {row:Option Nat}(h:Y0a w0 w A n v done)(hg:w.grownBy z row)(hr:∀k,row=some k->A+2<=k/\k<n):Y0a w0 z A n v done:=by
 obtain⟨⟨a,b,c⟩,h2,h3,h4,d⟩:=h;refine⟨⟨a,b,Ef c hg.size⟩,h2.grown hg sX (fun j hj=>by have:=hr j hj;omega),(hg.block A sX (fun e=>by have:=hr A e.symm;omega)).trans h3,(hg.block (A+1) sX (fun e=>by have:=hr _ e.symm;omega)).trans h4,?_⟩;exact d.kept (M:=[row]) (Yah.one hg fun k _ e=>Wae) fun j _ hm=>(hr j (Df.1 hm).symm).2
theorem Y0a.below (h:Y0a w0 w A n v done)(a:Below w.heap.size w z):Y0a w0 z A n v done:=h.turn (BF a none) fun k e=>by cases e
theorem Y0a.app {a:A0}{S:ShP}(h:Y0a w0 w A n v done)(ho:AO 8 39 (ShK (v.ownBlock::E8 n) w) z n a (done++[S]))(hg:w.grownBy z v.ownBlock)(d:∀k,a.ownBlock=some k->v.ownBlock=some k\/w.heap.size<=k):
  Y0a w0 (z.setCell ⟨A+1,0,none⟩ a) A n a (done++[S])/\Yah [v.ownBlock,some (A+1)] w (z.setCell ⟨A+1,0,none⟩ a):=by
 obtain⟨⟨f,g,i⟩,h2,h3,h4,c⟩:=h;have b:∀k,k<n->some k≠v.ownBlock:=fun k hk e=>by have:=AO.fresh c k e.symm;omega
 have l:=(hg.block (A+1) sX (b _ sX)).trans h4;have hs:=Yah.set (w:=z) (p:=⟨A+1,0,none⟩) (L:=[some (A+1)]) a (Df.2 rfl);refine⟨⟨⟨f,g,Ef i (Ef hg.size hs.size)⟩,?_,?_,B3 (o:=0) a l,?_⟩,?_⟩
 ·have m:Below A w0 z:=h2.grown hg sX (fun j hj=>by have:=AO.fresh c j hj;omega);exact m.trans (hs.under (by have:=hg.size;omega) fun k hk=>by have e:=Df.1 hk;injection e with e;omega)
 ·rw[Ib _ _ _ _ (show A≠A+1 by omega)];exact(hg.block A sX (b A sX)).trans h3
 ·exact(HQ.app ho hg d).kept hs fun j _ hm=>Waf
 ·exact(Yah.one (L:=[v.ownBlock,some (A+1)]) hg fun k _ e=>Wba).trans hs fun j _ hm=>Ey _ hm
theorem Y0a.fin (h:Y0a w0 w A n v done)(F:Bool)(hg:Yah [some A,some (A+1)] w z)(hl:done.length<=64):MI z ⟨done,F⟩ [v,.bool F]/\Below w0.heap.size w0 z:=by
 obtain⟨⟨a,c,d⟩,h2,h3,h4,b⟩:=h;have hm:∀j,some j∈[some A,some (A+1)]->A<=j/\j<n:=fun j hj=>by
  rcases Ee.1 hj with e|e
  ·exact Wga
  ·have e:=Df.1 e;exact Wga
 exact⟨(b.kept hg fun j _ hj=>(hm j hj).2).strV tK F,by rw[a];exact h2.trans (hg.under (by omega) fun k hk=>(hm k hk).1)⟩
theorem Y0a.bad (h:Y0a w0 w A n v done)(hg:w.grownBy z (some A)):Below w0.heap.size w0 z:=by
 rw[h.ord.1];exact h.low.grown hg (by have:=h.ord;omega) fun j hj=>Wag
end
theorem SD {w:A5}{ops:Array A4}{rest:List A4}{o:A4}{a:Act}{Q:Exit->Act->A5->Prop}(e:o.guard=none)(x:A8)(ho:o.op=.buildSlice 22 1 #[(0,x)])(vs:List A0)(hl:vs.length=8)
  (f:a.eval x=.agg vs.toArray)(h:wpList prog ops Q rest (a.put o.dst (.slice (some ⟨w.heap.size,0,none⟩) 1 1)) (w.alloc (.cells vs.toArray 39 (0,0)))):wpList prog ops Q (o::rest) a w:=by
 match vs,hl with
 |[u0,u1,u2,u3,u4,u5,u6,u7],_=>
  have b:(match prog.info? 39 with
   |some c=>(match c.zero with
    |some z=>if c.size=8 then Instr.fill (fun i=>some (i*c.size,c.size)) ((Array.range (1*c.size)).map (z.cells[· % z.cells.size]!)) [(0,.agg #[u0,u1,u2,u3,u4,u5,u6,u7])] else none
    |none=>none)
   |none=>none)=some #[u0,u1,u2,u3,u4,u5,u6,u7]:=tN
  cases hi:prog.info? 39 with
  |none=>rw[hi] at b;cases b
  |some c=>
   rw[hi] at b;cases hz:c.zero with
   |none=>simp only[hz] at b;cases b
   |some z=>
    simp only[hz] at b;by_cases d:c.size=8
    ·rw[Bb d] at b;exact Ov e _ _ 1 _ ho _ c z Pz hi hz (by rw[d];decide) (by rw[d];decide) (by simpa [f] using b) h
    ·rw[Ba d] at b;cases b
def ZA:Option A0->Nat
 |some (.slice _ n _)=>n
 |_=>0
def SM (l:List UInt8)(w:A5)(e:Ae)(a:A5):Prop:=
 ∃vs:List A0,e=.returned (.tuple #[.agg vs.toArray,.int .i64 ((CH ctk l).2.1:Int),.int .i64 (CH ctk l).2.2])/\MI a (CH ctk l).1 vs/\Below w.heap.size w a
theorem aP (w:A5):MI w DE [.slice none 0 0,.bool false]:=⟨none,0,rfl,Do _,Do _,.inl rfl⟩
theorem Rc:∀w,(zeroValue 24).run prog w=.ok (.agg #[.slice none 0 0,.bool false]) w:=KL tN
set_option maxRecDepth 100000 in
theorem TV {w:A5}{s:ByteArray}(ht:Ybt w.heap.size w)(hs:s.size<=140737488355328):A9 prog 14 #[.string s] w (SM s.data.toList w):=by
 obtain⟨A,hA⟩:=Ah w.heap.size;have di:=Rc;have a4:=aP;obtain⟨wA,F⟩:=Ah (w.alloc (.cells #[.slice none 0 0,.bool false] 24 (0,0)));have bl:wA.heap[A]? =some (.cells [.slice none 0 0,.bool false].toArray 24 (0,0)):=by rw[<-F,<-hA];exact heap_alloc_new w _
 have R:Below w.heap.size w wA:=by rw[<-F];exact(Dn _ w).alloc (B9 _) _
 have a5:wA.heap.size=A+1:=by rw[<-F,<-hA];simp
 unfold SM;have a6:s.data.toList.length=s.size:=rfl;by_cases av:262144<s.size
 ·have hE:CH ctk s.data.toList=(DE,0,13):=by unfold CH;exact Bb (by omega)
  rw[hE];have t0:decide (262144<(s.size:Int))=true:=sU;have t1:decide (262144<s.size)=true:=sU;have bm:=Dm F;have cj:=Dm hA;have dj:=Dm R;clear F av hE hs a6 ht hA R a5
  go_enter func14,ntmps14
  go_wp2
  go_step3
  go_wp2
  rw[L3];exact Hb (B0 rfl _ _ w.heap.size 24 _ (0,0) _ rfl (heap_alloc_new w _) Px rfl tN) rfl ⟨_,rfl,a4 _,(Dn _ w).alloc (B9 _) _⟩
 have ci:s.size<=262144:=sX;have t0:decide (262144<(s.size:Int))=false:=sU;have t1:decide (262144<s.size)=false:=sU;obtain⟨E,hE⟩:=Ah (CH ctk s.data.toList);rw[hE];have bn:CU ctk s.data.toList 65 0 []=E:=by rw[<-hE];unfold CH;rw[Ba (by omega)]
 obtain⟨wX,T⟩:=Ah (wA.alloc (.cells #[.slice none 0 0,.bool false] 24 (0,0)));have bo:wX.heap[A+1]? =some (.cells [.slice none 0 0,.bool false].toArray 24 (0,0)):=by rw[<-T,<-a5];exact heap_alloc_new wA _
 have aj:Below wA.heap.size wA wX:=by rw[<-T];exact(Dn _ wA).alloc (B9 _) _
 obtain⟨rb,U⟩:=Ah wX.heap.size;have ck:rb=A+2:=by rw[<-U,<-T];simp;omega
 obtain⟨wR,W⟩:=Ah (wX.alloc (LA s 0));have ak:Below wX.heap.size wX wR:=by rw[<-W];exact(Dn _ wX).alloc (B9 _) _
 have cm:wR.heap.size=rb+1:=by rw[<-W,<-U];simp
 obtain⟨n,hn⟩:=Ah (rb+1);have bp:AE wR rb s 0:=by rw[<-W];exact AE.fresh U hs
 have aw:Below A w wR:=hA▸(R.trans ((aj.trans (ak.mono aj.size)).mono R.size));have ax:Y0a w wR A n (.slice none 0 0) []:=⟨⟨hA,sX,sX⟩,aw,(ak.block A sX).trans ((aj.block A sX).trans bl),(ak.block (A+1) sX).trans bo,HQ.nil n wR⟩;have de:Hid (CU ctk s.data.toList (65-([]:List ShP).length) 0 []=E):=Dm bn;have dk:=Dm (fun(x:A5) (r:Below A w x)=>(ht.below (hA.symm▸r):Ybt w.heap.size x));have bm:=Dm F;have cj:=Dm hA;have cn:=Dm T;have co:=Dm U;have cp:=Dm W;have bq:=Dm (show rb=A+2/\n=A+3 by omega);have aa:=Dm a6;have br:=Dm a4;obtain⟨Y,cq,dl⟩:=Sb;have al:(prog.info? 24).map (·.size)=some (#[.slice none 0 0,.bool false]:Array A0).size:=tN;have bs:(#[.slice none 0 0,.bool false]:Array A0).all (·.oneCell')=true:=Wbo;clear F hA T U W hE bn bl R a5 bo aj ck ak cm hn aw ht a6 a4 av hs
 go_enter func14,ntmps14
 go_wp2
 go_step3
 go_wp2_with fail
 rw[bm.out,cj.out,cn.out];refine(Qa _ _).mono ?_;rintro e u ⟨rfl,rfl⟩;rw[cp.out,co.out]
 go_wp2
 go_step3
 go_wp2
 clear t0 t1
 go_loopw [7] (fun z wr=>∃(p:Nat) (v:A0) (done:List ShP),Y0a w wr A n v done/\AE wr rb s p/\done.length<=64/\p<=8*s.size/\p%8=0/\Hid (CU ctk s.data.toList (65-done.length) p done=E)) (fun _ wr=>65-ZA (wr.cell? ⟨A+1,0,none⟩))
 case atStart=>exact⟨0,_,[],ax,bp,Do _,Do _,rfl,de⟩
 case round=>
  clear ax bp de;obtain⟨p,v,done,g,hr,a7,dm,bt,hT⟩:=hrel;have e1:=g.own.ins.1;obtain⟨q,cap,hv⟩:∃q cap,v=.slice q done.length cap:=⟨_,_,e1⟩;subst hv;obtain⟨a,ha⟩:=Ah (p / 8);have dv:(p:Int).tdiv 8=(a:Int):=Wbk;have wa:IntKind.i64.wrap (a:Int)=(a:Int):=CE sX;have k0:=AA (o:=0) g.loc rfl;have dn:=Dm k0;obtain⟨Z,hZ⟩:=Ah ([Value.slice q done.length cap,.bool false].toArray);have i:=g.loc;have m:=g.res;rw[hZ] at i;have a8:(prog.info? 24).map (·.size)=some Z.size:=Wa1;have cr:(#[.slice none 0 0,.bool false]:Array A0).size=Z.size:=zY;have cs:Z.all (·.oneCell')=true:=Wbn;have df:=Dm hZ;have ab:=Dm (show p=8*a by omega);have dp:=Dm bt;have dg:=g.ord;clear e1 ha hZ bt
  go_wp2_with fail
  refine(EF _ _ _ _ hr).mono ?_;rintro e u ⟨rfl,rfl⟩;have cl:=Rf wr rb s p hr;by_cases hq:done.length≠0/\p=8*s.size
  case pos=>
   obtain⟨G,ac⟩:=hq;have t0:((done.length:Int)==0)=false:=uC;rw[show 8*(s.size:Int)-(p:Int)=0 by omega] at cl;have a9:Hid (E=(⟨done,false⟩,0,0)):=Dm (by
    rw[<-hT.out,show 65-done.length=(64-done.length)+1 by omega];exact kJ _ (by rw[aa.out];exact ac) G)
   clear G ac hT
   go_wp2_with fail
   refine cl.mono ?_;rintro e w3 ⟨rfl,b⟩;have cu:=(b.block (A+1) sX).trans i;have cv:=(b.block A sX).trans m;clear cl k0 i m
   go_wp2_with (first|(with_reducible refine Nb rfl 24 _ rfl (A+1) rfl 24 Z (0,0) _ cu Px rfl a8 ?_)|(with_reducible refine AK rfl 24 _ _ rfl A Z _ rfl rfl 24 cv a8 cr cs ?_;intro wz H I))
   rw[L3];refine Hb (B0 rfl _ _ A 24 _ (0,0) _ rfl H Px rfl a8) rfl ?_;have hf:=(g.below b).fin false (Yah.one (L:=[some A,some (A+1)]) I fun j _ e=>Wba) a7;rw[a9.out];exact⟨_,by rw[df.out];rfl,hf⟩
  obtain⟨L,hL⟩:=Ah (8*(s.size:Int)-(p:Int));rw[hL] at cl;by_cases hm:done.length≠0/\N2 s.data.toList p=true
  case pos=>
   obtain⟨G,ba⟩:=hm;have t0:((done.length:Int)==0)=false:=uC;have tL:(L==0)=false:=by rw[Fe];intro h;exact hq ⟨G,by omega⟩
   have bb:=ZE.1 ba;have ac:p≠8*s.data.toList.length:=fun e=>hq ⟨G,by rw[aa.out] at e;exact e⟩;have ad:=RH (ct:=ctk) (l:=s.data.toList) (p:=p) (done:=done) (64-done.length) ac ⟨sX,bb⟩;rw[show (64-done.length)+1=65-done.length by omega,hT.out] at ad;have bc:a<=s.size:=Wbq;have cw:=Dm bc;have ae:=kI (l:=s.data.toList) (a:=a) (by rw[aa.out];exact bc) (by rw[<-ab.out];exact bb);rw[<-ab.out] at ae;obtain⟨X,hX⟩:=Ah (s.extract a s.size);have bu:X.data.toList=s.data.toList.drop a:=by
    rw[<-hX,ByteArray.data_extract,Array.toList_extract];exact Bh (by rw[Bf];exact B9 _)
   obtain⟨P,hP⟩:∃P:ByteArray,⟨PY.toArray⟩=P:=⟨_,rfl⟩;have am:X=P↔8*s.data.toList.length=p+24/\AB s.data.toList (p+22) 2=0:=by
    rw[<-ae,<-bu,LO,<-hP]
   have cx:=Dm (fun(x:A5) (r:Below wr.heap.size wr x)=>(by
    have h:=iO x;rw[hP] at h;exact h.mono fun e y h=>⟨h.1,r.trans (h.2.mono r.size)⟩:A9 prog 31 #[] x fun e y=>e=.returned (.string P)/\Below wr.heap.size wr y))
   have dq:=Dm hX;have N:=fun(x:A5) (r:AE x rb s p)=>eX r sX;rw[ba] at N;have af:=Dm N;clear ba bb ac bc ae hX bu hP G hL hq hT
   go_wp2_with fail
   refine cl.mono ?_;rintro e w3 ⟨rfl,b⟩;have c3:=af.out _ (hr.below b);clear cl
   go_wp2_with fail
   refine c3.mono ?_;rintro e w4 ⟨rfl,t⟩;have J:Below wr.heap.size wr w4:=b.trans (t.mono b.size);clear c3 t b k0 af
   go_wp2
   refine E1 (S:=fun x=>Below wr.heap.size wr x) 5 tN tN J.drew ?_;simp only[Dq,Bk,Gp,Gq]
   iterate 2 (refine AQ ?_;simp only[A1])
   refine B1 (v:=.string X) tN (fun x _=>by go_simp;rw[Bb cw.out,dq.out]) ?_;simp only[A1];refine C2 tN cx.out (fun _=>tN) ?_;simp only[A1];by_cases hb:X=P
   ·have a9:Hid (E=(⟨done,true⟩,0,0)):=Dm (by rw[ad,Bb (am.1 hb)]);subst hb;refine B1 (v:=.bool false) tN (fun x _=>zH) ?_;simp only[A1];refine DX fun x r=>?_;have ag:=(r.block (A+1) sX).trans i;have an:=(r.block A sX).trans m;rw[<-df.out] at ag;have k1:=AA (o:=1) ag rfl;have f1:=AL (o:=1) ag;have bv:=B3 (o:=1) (.bool true) ag;have bd:(x.setCell ⟨A+1,1,none⟩ (.bool true)).heap[A]? =_:=(Ib _ _ _ _ (show A≠A+1 by omega)).trans an;have bw:=Yah.set (w:=x) (p:=⟨A+1,1,none⟩) (L:=[some A,some (A+1)]) (.bool true) (Ey _ (Df.2 rfl));obtain⟨bx,O⟩:=Ah (([Value.slice q done.length cap,.bool false].set 1 (.bool true)).toArray);rw[O] at bv;have ah:(prog.info? 24).map (·.size)=some bx.size:=by rw[<-O];kernel_rfl
    have bz:(#[.slice none 0 0,.bool false]:Array A0).size=bx.size:=by rw[<-O];rfl
    have b0:bx.all (·.oneCell')=true:=by rw[<-O];simp[Value.oneCell']
    have cy:=Dm O;have cz:=Dm bw;clear ag an i m O bw ad am J cx
    go_wp2_with (first|(with_reducible refine Nb rfl 24 _ rfl (A+1) rfl 24 bx (0,0) _ bv Px rfl ah ?_)|(with_reducible refine AK rfl 24 _ _ rfl A bx _ rfl rfl 24 bd ah bz b0 ?_;intro wz H I))
    rw[L3];refine Hb (B0 rfl _ _ A 24 _ (0,0) _ rfl H Px rfl ah) rfl ?_;have hf:=(g.below r).fin true (cz.out.trans (Yah.one (L:=[some A,some (A+1)]) I fun j _ e=>Wba) fun j _ h=>h) a7;rw[a9.out];exact⟨_,by rw[<-cy.out];rfl,hf⟩
   ·have a9:Hid (E=(DE,a,5)):=Dm (by rw[ad,Ba (fun h=>hb (am.2 h)),show p / 8=a by have:=ab.out;omega]);have tb:=bR hb;refine B1 (v:=.bool true) tN (fun x _=>by go_simp;try (rw[tb];rfl)) ?_;simp only[A1];refine DX fun x r=>?_;have an:=(r.block A sX).trans m;clear i m ad am J cx hb
    go_wp2_with (with_reducible refine AK rfl 24 _ _ rfl A _ _ rfl rfl 24 an al rfl bs ?_;intro wz H I)
    rw[L3];refine Hb (B0 rfl _ _ A 24 _ (0,0) _ rfl H Px rfl al) rfl ?_;rw[a9.out];exact⟨_,rfl,br.out _,(g.below r).bad I⟩
  have ay:done.length≠0->p≠8*s.data.toList.length/\¬ ((AM s.data.toList p).2=0/\(AM s.data.toList p).1=31):=fun G=>⟨fun e=>hq ⟨G,by rw[aa.out] at e;exact e⟩,fun e=>hm ⟨G,ZE.2 e⟩⟩;obtain⟨⟨S,q2,f⟩,hk⟩:=Ah (wtk ctk s.data.toList p);have bf:=YT (64-done.length) ay hk;rw[show (64-done.length)+1=65-done.length by omega,hT.out] at bf;have ao:=Dm bf;have c0:=Dm hk;clear ay bf hk hT;by_cases G:done.length=0
  case' pos=>
   have t0:((done.length:Int)==0)=true:=by rw[G];rfl
   have d:=g;have bg:=hr;clear G hq hm hL cl hr
   go_wp2_with fail
  case' neg=>
   have t0:((done.length:Int)==0)=false:=uC;have tL:(L==0)=false:=by rw[Fe];intro h;exact hq ⟨G,by omega⟩
   have N:=fun(x:A5) (r:AE x rb s p)=>eX r sX;rw[show N2 s.data.toList p=false by cases h:N2 s.data.toList p with|false=>rfl|true=>exact absurd ⟨G,h⟩ hm] at N;have af:=Dm N;clear G hq hm hL N
   go_wp2_with fail
   refine cl.mono ?_;rintro e w3 ⟨rfl,b⟩;have c3:=af.out _ (hr.below b);clear cl af k0
   go_wp2_with fail
   refine c3.mono ?_;rintro e w4 ⟨rfl,t⟩;have J:Below wr.heap.size wr w4:=b.trans (t.mono b.size);have d:=g.below J;have bg:=hr.below J;have k0:=AA (o:=0) d.loc rfl;clear c3 t b J hr
   go_wp2_with fail
  all_goals
   have ct:=Y67 (q:=q) (cap:=cap) bg (dk.out _ d.low) (by have:=bq.out;have:=cj.out;omega) sX (fun x r=>((d.turn r (fun k e=>by injection e with e;have:=bq.out;omega)).own.ins).2.2.2) a7;unfold W3 at ct;rw[c0.out] at ct;dsimp only at ct;have az:=jM (f:=f) (n:=done.length) (fo:=CA (BZ done) S);generalize G2 f done.length (CA (BZ done) S)=c at *;have b1:=Dm az;clear az;refine ct.mono ?_;rintro e w5 ⟨M,rfl,b2,bh,b3⟩;have a0:=d.turn b3 (fun k e=>by injection e with e;have:=bq.out;omega);have hK:ShK ((Value.slice q done.length cap).ownBlock::E8 n) w5 S M:=ShK.own d.own (B9 _) d.ord.2.2 b2;obtain⟨D,hD⟩:=Ah w5.heap.size;obtain⟨w6,ai⟩:=Ah (w5.alloc (.cells M.toArray 39 (0,0)));have ap:Below w5.heap.size w5 w6:=by rw[<-ai];exact(Dn _ w5).alloc (B9 _) _
   have b4:w6.heap[D]? =some (.cells M.toArray 39 (0,0)):=by rw[<-ai,<-hD];exact heap_alloc_new w5 _
   have B:=a0.below ap;have aq:=hK.shape.1;have c1:=hK.shape.2;have b5:=hK.shV.ones;have bi:(prog.info? 39).map (·.size)=some M.toArray.size:=by rw[show M.toArray.size=8 from aq];kernel_rfl
   have b6:Y.size=M.toArray.size:=by rw[cq];exact aq.symm
   have b7:=Dm ai;have dh:=Dm hD;by_cases hc:c=0
   case neg=>
    have tc:(c != 0)=true:=by rw[Fj];exact hc
    have a9:Hid (E=(DE,a,c)):=Dm (by rw[ao.out,Bb hc,show p / 8=a by have:=ab.out;omega]);have bd:=B.res;clear hc b4 hK bh ct ai hD ao
    go_wp2_with (first|(with_reducible refine BL rfl 39 _ _ rfl M.toArray Y 39 rfl rfl bi b6 b5 ?_;rw[b7.out,dh.out])|(with_reducible refine AK rfl 24 _ _ rfl A _ _ rfl rfl 24 bd al rfl bs ?_;intro wz H I))
    rw[L3];refine Hb (B0 rfl _ _ A 24 _ (0,0) _ rfl H Px rfl al) rfl ?_;rw[a9.out];exact⟨_,rfl,br.out _,B.bad I⟩
   subst hc;have tc:((0:Int) != 0)=false:=rfl;obtain⟨b8,a1,-⟩:=b1.out rfl;have hk:=c0.out;rw[b8] at hk;have b9:=TD hk;have bj:=(Rg (Sm s.data.toList) hk).2.2.2.2.2.2.1;rw[AZ,aa.out] at bj;have c2:Hid (CU ctk s.data.toList (65-(done++[S]).length) q2 (done++[S])=E):=Dm (by
    rw[ao.out,Ba sY,B8,show 65-(done.length + [S].length)=64-done.length by simp])
   have ca:=bh.below ap;obtain⟨Q,hQ⟩:=Ah w6.heap.size;obtain⟨wQ,ar⟩:=Ah (w6.alloc (.cells M.toArray 39 (0,0)));have au:Below w6.heap.size w6 wQ:=by rw[<-ar];exact(Dn _ w6).alloc (B9 _) _
   have cb:wQ.heap[Q]? =some (.cells M.toArray 39 (0,0)):=by rw[<-ar,<-hQ];exact heap_alloc_new w6 _
   have a2:=B.below au;have cc:=ca.below au;have c4:=(hK.below ap).below au;have cd:∀(j:Nat) u,M[j]? =some u->wQ.cell? ⟨Q,j,none⟩=some u:=fun j u hu=>AA cb hu;have k6:=AA (o:=0) B.loc rfl;obtain⟨ri,rz,j0,j1,j2,j3,j4⟩:=Xf;have C:=Dm a2;have bk:=Dm cc;have dr:=Dm hQ;have c5:=Dm ar;have c6:=Dm cd;have c7:=Dm b9;have c8:=Dm bj;have ce:=Dm a1;clear b8 hk b9 bj bh ca ap hQ ar au cb a2 cc cd ct ai hD ao c0 hK B a0 d g b3 bg b2 i m a1 k0
   go_wp2_with (first|(with_reducible refine BL rfl 39 _ _ rfl M.toArray Y 39 rfl rfl bi b6 b5 ?_;rw[b7.out,dh.out])|(with_reducible refine Nb rfl 39 _ rfl D rfl 39 M.toArray (0,0) _ b4 Oz rfl bi ?_)|(with_reducible refine SD rfl _ rfl M aq rfl ?_;rw[c5.out,dr.out])|(at_builtin;refine O2 (V:=ShK ((Value.slice q done.length cap).ownBlock::E8 n) wQ) (w:=wQ) (c:=8) (bytes:=96) (base:=n) (v:=.slice q done.length cap) (l:=done) (y:=S) (vs:=M) (K:=Q) (cap:=1) rfl rfl Pz j0 j1 j2 j3 j4 sY ?d1 ?d2 C.out.own c4 aq c1 c6.out ?d3 ?d4 C.out.ord.2.2 ?_;(case d1=>kernel_rfl);(case d2=>kernel_rfl);(case d3=>(unfold maxLen;omega));(case d4=>omega);intro q9 cf w9 da cg db;have ch:=(cg.block (A+1) (by have:=C.out.ord;omega) fun e=>by have:=AO.fresh C.out.own _ e.symm;have:=C.out.ord;omega).trans C.out.loc;have c9:=AA (o:=0) ch rfl;have f9:=AL (o:=0) ch))
   obtain⟨a3,dc⟩:=C.out.app da cg db;have dd:AE _ rb s q2:=⟨(dc.block rb bk.out.lt (fun hm=>by
    rcases Ee.1 hm with e|e
    ·have:=AO.fresh C.out.own _ e.symm;have:=bq.out;omega
    ·have e:=Df.1 e;injection e with e;have:=bq.out;omega)).trans bk.out.1,bk.out.2⟩
   have kZ:=AA (o:=0) a3.loc rfl
   go_roundw
   case rel=>exact⟨q2,.slice q9 (done.length+1) cf,done++[S],a3,dd,by rw[B8];have:=ce.out;simp;omega,c8.out,c7.out,c2⟩
   case measure=>
    rw[dn.out,kZ];show 65-(done.length+1)<65-done.length;have:=ce.out;omega
theorem oN {l:List ShP}{i:Nat}(hi:i<l.length):DD [] (l.take (i+1))=GD (DD [] (l.take i)) l[i]:=by rw[Bd hi,Qbo]
theorem sE {l:List ShP}{F:Bool}(i:Nat)(h:2097152<(DD [] (l.take i)).length):2097152<(CD l F).length:=by
 have h1:=rM (l.take i) (l.drop i) F;rw[Bt] at h1;omega
theorem sT (l:List ShP)(F:Bool):(if F then MJ (DD [] l) else DD [] l)=CD l F:=by
 cases F with
 |false=>exact TJ l
 |true=>exact qN l
set_option maxRecDepth 100000 in
theorem nZ {u w:A5}{T:StrP}{vs:List A0}(hT:JD u T vs)(ht:Ybt u.heap.size u)(hu:Below u.heap.size u w):
  A9 prog 16 #[.agg vs.toArray] w fun e w'=>e=.returned (.tuple #[.string ⟨(MO T).1.toArray⟩,.int .i64 (MO T).2])/\Below w.heap.size w w':=by
 have ao:=fun(x:A5) (hx:Below u.heap.size u x)=>rS hT ht hx;have p:=kH (T:=T);have a:=kK (T:=T);have f:=cX (T:=T);have s:=eH (T:=T);obtain⟨⟨q,cap,rfl,ap,aq,ar⟩,au⟩:=hT;obtain⟨l,F⟩:=T;dsimp only at *;unfold maxLen at aq;obtain⟨D,hD⟩:=Ah w.heap.size;obtain⟨A,hA⟩:=Ah ([Value.slice q l.length cap,.bool F].toArray);obtain⟨t,y⟩:=Ah (w.alloc (.cells A 24 (0,0)));have E:Below w.heap.size w t:=by rw[<-y];exact(Dn _ w).alloc (B9 _) _
 have av:t.heap.size=D+1:=by rw[<-y,<-hD];simp
 have ag:t.heap[D]? =some (.cells A 24 (0,0)):=by rw[<-y,<-hD];exact heap_alloc_new w _
 have O:Hid (∀x,Below (D+1) t x->x.heap[D]? =some (.cells A 24 (0,0))/\x.cell? ⟨D,0,none⟩=some (.slice q l.length cap)/\x.cell? ⟨D,1,none⟩=some (.bool F)/\Below w.heap.size w x/\Below u.heap.size u x):=Dm fun x hx=>by
  have h1:=(hx.block D sX).trans ag;have h2:=h1;rw[<-hA] at h2;exact⟨h1,AA (o:=0) h2 rfl,AA (o:=1) h2 rfl,E.trans (hx.mono sX),hu.trans ((E.trans (hx.mono sX)).mono hu.size)⟩
 have bh:(prog.info? 24).map (·.size)=some A.size:=by rw[<-hA];kernel_rfl
 have aw:Below (D+1) t t:=Dn _ _;have c1:=ao t (O.out _ aw).2.2.2.2;rw[hA] at c1 ⊢;obtain⟨er,ax⟩:=Ah (GI ⟨l,F⟩);rw[ax] at c1 p a f s;obtain⟨b6,ay⟩:=Ah (MO ⟨l,F⟩);rw[ay] at p a f ⊢;have bi:=Dm y;have b3:=Dm hD;have P:=Dm av;have Z:=Dm p;have G:=Dm a;have bj:=Dm f;have aa:=Dm s;have bk:=Dm ar;have b7:=Dm ht;have bl:=Dm au;have b8:=Dm hu.size;clear y hD E av p a f s ar ht au ax ay hA ao hu
 go_enter func16,ntmps16
 go_wp2_with (rw[bi.out,b3.out];with_reducible refine Nb rfl 24 _ rfl D rfl 24 A (0,0) _ ag Px rfl bh ?_)
 refine c1.mono ?_;rintro e w2 ⟨rfl,ah⟩;have g:Below (D+1) t w2:=ah.mono (by have:=P.out;omega);clear c1 ag aw;by_cases he:er=0
 case neg=>
  have tn:(er != 0)=true:=by rw[Fj];exact he
  have N:=Dm (Z.out he);have hE:=(O.out _ g).2.2.2.1;clear he ah
  go_wp2
  go_ret2
  exact⟨vG,hE⟩
 subst he;have tn:((0:Int) != 0)=false:=rfl;obtain⟨⟨bm,az⟩,a0⟩:=aa.out xU;have a1:=Dm (Vs a0);obtain⟨b,L⟩:=Ah w2.heap.size;obtain⟨w3,H⟩:=Ah (w2.alloc HD);have ab:AN w3 (b+1) b []:=by rw[<-H];exact AN.fresh L (Oq _)
 have ac:Below w2.heap.size w2 w3:=by rw[<-H];exact(Dn _ w2).alloc (B9 _) _
 have bn:w3.heap.size=b+1:=by rw[<-H,<-L];simp
 have b9:D+1<=b:=by have h1:=g.size;have h2:=P.out;omega
 have bo:u.heap.size<=b:=by have:=(O.out _ g).2.2.2.2.size;omega
 have I:Below (D+1) t w3:=g.trans (ac.mono sX);have k0:=(O.out _ I).2.1;obtain⟨n,hn⟩:=Ah l.length;have b4:=Dm hn;rw[hn] at O k0 bm az;have bp:=Dm H;have ca:=Dm L;obtain⟨Y,bq,cb⟩:=Sb;clear H L ac hn ah g aa Z a0 aq ap
 go_wp2_with fail
 refine(Sd _).mono ?_;rintro e x ⟨rfl,rfl⟩;rw[bp.out,ca.out]
 go_wp2
 clear k0 tn
 go_loopw [17] (fun z wr=>∃i:Nat,i<=n/\z=.int .i64 (i:Int)/\AN wr (b+1) b (DD [] (l.take i))/\(DD [] (l.take i)).length<=2097152/\b+1<=wr.heap.size/\Below (D+1) t wr) (fun z _=>n-(intOf z).toNat)
 case atStart=>exact⟨0,Do _,rfl,ab,Do _,sX,I⟩
 case round=>
  clear ab I bn;obtain⟨i,hi,rfl,m,ad,hz,L⟩:=hrel;by_cases a2:i<n
  ·have t0:decide ((i:Int)<(n:Int))=true:=sU;have t1:decide (i<n)=true:=by simpa using a2
   have Q:i<l.length:=by rw[b4.out];exact a2
   obtain⟨-,-,-,-,a3⟩:=O.out _ L;obtain⟨b1,o1,rfl,E,ae⟩:=EE.each bk.out sX;obtain⟨M,U,a4⟩:=ae i Q;have ai:=U.shape.1;have br:=U.ones;have a5:=bl.out l[i] (Bl Q);have a6:=a1.out l[i] (Bl Q);obtain⟨C,hC⟩:=Ah wr.heap.size;obtain⟨wC,J⟩:=Ah (wr.alloc (.cells M.toArray 39 (0,0)));have bs:wC.heap.size=C+1:=by rw[<-J,<-hC];simp
   have aj:Below wr.heap.size wr wC:=by rw[<-J];exact(Dn _ wr).alloc (B9 _) _
   have af:wr.rangeAt b1 (o1+i*8) M:=fun k v hk=>a4 wr a3 k v hk;have a7:wC.heap[C]? =some (.cells M.toArray 39 (0,0)):=by rw[<-J,<-hC];exact heap_alloc_new wr _
   have r:=L.trans (aj.mono (by have:=L.size;have:=P.out;omega));have a8:(prog.info? 39).map (·.size)=some M.toArray.size:=by rw[show M.toArray.size=8 from ai];kernel_rfl
   have bt:Y.size=M.toArray.size:=by rw[bq];exact ai.symm
   have c2:=Qml (u:=u) (w:=wC) (B:=b+1) (b:=b) (S:=l[i]) (vs:=M) ⟨U,a5⟩ b7.out (O.out _ r).2.2.2.2 bo sX (m.below aj) sX a6;rw[<-oN Q] at c2;obtain⟨an,V⟩:=Ah (DD [] (l.take (i+1)));rw[V] at c2;have ak:=Dm (fun(h:2097152<an.length)=>(G.out xU (sE (F:=F) (i+1) (by rw[V];exact h)):b6=([],13)));have a9:=Dm V;have bu:=Dm J;have b5:=Dm hC;clear J hC a4 U a5 a6 a3 E ae m ad V aj
   go_wp2_with (first|(with_reducible refine bP rfl _ rfl b1 (o1+i*8) rfl M af ai ?_)|(with_reducible refine BL rfl 39 _ _ rfl M.toArray Y 39 rfl rfl a8 bt br ?_;rw[bu.out,b5.out])|(with_reducible refine Nb rfl 39 _ rfl C rfl 39 M.toArray (0,0) _ a7 Oz rfl a8 ?_))
   refine c2.mono ?_;rintro e w4 ⟨rfl,K,hg4⟩;have ba:Below (D+1) t w4:=r.grown hg4 (by have:=r.size;have:=P.out;omega) (fun j hj=>Wag);have bv:b+1<=w4.heap.size:=by have:=hg4.size;have:=b5.out;omega
   clear c2 hg4 a7 af r bs hz L
   go_wp2_with fail
   refine(Yc _ _ _ _ K).mono ?_;rintro e x ⟨rfl,rfl⟩;by_cases c:2097152<an.length
   ·have t3:decide (2097152<(an.length:Int))=true:=sU;have t4:decide (2097152<an.length)=true:=sW;have N:=Dm (ak.out c);have hE:=(O.out _ ba).2.2.2.1;clear c ak
    go_wp2
    go_ret2
    exact⟨vG,hE⟩
   ·have t3:decide (2097152<(an.length:Int))=false:=sU;have t4:decide (2097152<an.length)=false:=sW;have bb:(DD [] (l.take (i+1))).length<=2097152:=by rw[a9.out];omega
    have bw:AN w4 (b+1) b (DD [] (l.take (i+1))):=by rw[a9.out];exact K
    have bx:=Dm bb;clear c ak K bb
    go_wp2
    go_roundw
    case rel=>exact⟨i+1,sX,tP,bw,bx.out,bv,ba⟩
    case measure=>simp[intOf];omega
  ·obtain rfl:i=n:=sX;have t0:decide ((i:Int)<(i:Int))=false:=sV;have t1:decide (i<i)=false:=sV;have bc:l.take i=l:=Bh (by have:=b4.out;omega);rw[bc] at m ad;obtain⟨-,-,k1,hE,-⟩:=O.out _ L;have d:=sT l F;obtain⟨R,hR⟩:=Ah (CD l F);have a:=G.out xU;have f:=bj.out xU;rw[hR] at d a f;have bd:R.length<=3000000:=by
    rw[<-d];have:=iN (DD [] l);cases F <;> simp <;> omega
   have al:=Dm a;have bz:=Dm f;have W:=Dm d;have b0:=Dm bd;clear a f hR bc d bd;cases F
   case' false=>
    have am:AN wr (b+1) b R:=by
     have h:DD [] l=R:=W.out;rw[<-h];exact m
    have X:=hE;clear m W
    go_wp2_with fail
   case' true=>
    have bf:MJ (DD [] l)=R:=W.out;have c3:=WS m sX hz;rw[bf] at c3;clear m W bf
    go_wp2_with fail
    refine c3.mono ?_;rintro e w5 ⟨rfl,am,bg⟩;have X:Below w.heap.size w w5:=hE.grown bg hE.size (fun j hj=>by injection hj with hj;have:=b3.out;omega);clear c3 bg
    go_wp2_with fail
   all_goals
    refine(Yc _ _ _ _ am).mono ?_;rintro e x ⟨rfl,rfl⟩;by_cases c:2097152<R.length
    ·have t3:decide (2097152<(R.length:Int))=true:=sU;have t4:decide (2097152<R.length)=true:=sW;have N:=Dm (al.out c);clear c al bz
     go_wp2
     go_ret2
     exact⟨vG,X⟩
    ·have t3:decide (2097152<(R.length:Int))=false:=sU;have t4:decide (2097152<R.length)=false:=sW;have N:=Dm (bz.out sX);clear c al bz
     go_wp2_with fail
     refine(XO _ _ _ _ am (by have:=b0.out;omega)).mono ?_;rintro e w6 ⟨rfl,b2⟩
     go_wp2
     go_ret2
     exact⟨vG,X.trans (b2.mono X.size)⟩
theorem kL (ct:CelT):CH ct []=(DE,0,2):=by
 unfold CH;rw[Ba sY];exact PA 64 rfl
def H0:StrP:=⟨[exS1],true⟩
theorem Qow:GI H0=0/\(CD H0.sheets H0.fin).length<=2097152:=uB
set_option maxRecDepth 100000 in
theorem Qeb (w:A5):A9 prog 19 #[] w fun e w'=>∃vs:List A0,e=.returned (.agg vs.toArray)/\JD w' H0 vs/\Below w.heap.size w w':=by
 obtain⟨N,hN⟩:=Ah w.heap.size;obtain⟨Y,ac,a2⟩:=NX;obtain⟨a0,I,a3⟩:=RF;have ad:=Rc;obtain⟨A,J⟩:=Ah ((AD exSA nilS).toArray);obtain⟨Z,hZ⟩:∃Z:Array A0,#[.slice none 0 0,.bool false]=Z:=⟨_,rfl⟩;obtain⟨wz,K,g,r,s⟩:=PD w (.cells Z 24 (0,0));obtain⟨w0,L,b,M,t⟩:=PD wz (.cells A 77 (0,0));obtain⟨w1,O,d,u,y⟩:=PD w0 (.cells (AD exSA nilS++AD exSA nilS).toArray 77 (0,0));rw[hN] at g r s;rw[g] at b M t;rw[b] at d u y;have b:w0.heap.size=N+2:=b;have d:w1.heap.size=N+3:=d;obtain⟨w2,P,f,Q,z⟩:=PD w1 (.cells #[.bool false,.int .i64 0,.int .i64 0,.slice (some ⟨N+2,0,none⟩) 2 2] 46 (0,0));obtain⟨w3,R,a,B,C⟩:=PD w2 (.cells #[.bool false,.int .i64 0,.int .i64 0,.slice (some ⟨N+2,0,none⟩) 2 2,.bool false,.int .i64 0,.int .i64 0,.slice (some ⟨N+2,0,none⟩) 2 2] 46 (0,0));obtain⟨zs,l⟩:∃zs:List A0,[.int .i64 0,.int .i64 0,.int .i64 6,.bool false,.int .i64 5,.slice none 0 0,.slice (some ⟨N+4,0,none⟩) 2 2,.int .i64 0]=zs:=⟨_,rfl⟩;obtain⟨m,T,n,D,E⟩:=PD w3 (.cells zs.toArray 39 (0,0));rw[d] at f Q z;rw[f] at a B C;rw[a] at n D E;have f:w2.heap.size=N+4:=f;have a:w3.heap.size=N+5:=a;have n:m.heap.size=N+6:=n;have F:Below (N+5) w3 m:=E;have U:Below (N+4) w2 m:=C.trans (F.mono sX);have G:Below (N+3) w1 m:=z.trans (U.mono sX);have V:Below (N+2) w0 m:=y.trans (G.mono sX);have H:Below (N+1) wz m:=t.trans (V.mono sX);have W:Below N w m:=s.trans (H.mono sX);have ae:=(H.block N sX).trans r;have p:(Lit.int .i64 exSA.mx).wf=true/\(Lit.int .i64 exSA.my).wf=true:=sY;have af:=Dm (fun(x:A5) (hx:m.grownBy x (some N))=>(by
  have blk:∀k,k<N+6->k≠N->x.heap[k]? =m.heap[k]?:=fun k hk hn=>hx.block k sX (fun e=>by injection e with e;exact hn e);have hC:MF x (some ⟨N+2,0,none⟩) [exSA,exSA]:=Qm1 p p (fun _ _=>rfl) (fun _ _=>rfl) ((blk (N+2) sX sX).trans ((G.block (N+2) sX).trans u));have ag:HU x (some ⟨N+4,0,none⟩) exS1.rows:=Qm2 ((blk (N+4) sX sX).trans ((F.block (N+4) sX).trans B)) rfl rfl hC hC;have h5:x.heap[N+5]? =some (.cells zs.toArray 39 (0,0)):=(blk (N+5) sX sX).trans D;have hV:ShV x exS1 zs:=⟨none,some ⟨N+4,0,none⟩,0,2,l.symm,Do _,sY,BO.nil _ _,ag⟩;refine⟨⟨⟨some ⟨N+5,0,none⟩,1,rfl,B9 _,sY,.inr ⟨N+5,0,rfl,by have:=hx.size;omega,fun i hi=>?_⟩⟩,fun S hS=>?_⟩,W.grown hx sX (fun j hj=>Wag)⟩
  ·obtain rfl:i=0:=by simpa [H0] using hi
   exact⟨zs,hV,fun j v hj=>by have h:=AA (o:=j) h5 hj;simpa using h⟩
  ·obtain rfl:S=exS1:=by simpa [H0] using hS
   refine⟨sY,fun c hc k _=>?_⟩;have:c=exSA:=by simpa [FA,exS1] using hc
   subst this;exact Do _:JD x H0 [.slice (some ⟨N+5,0,none⟩) 1 1,.bool true]/\Below N w x))
 have X:(prog.info? 77).map (·.size)=some A.size:=by rw[<-J];exact Rm _ _
 have ah:Y.size=A.size:=by rw[ac,<-J];rfl
 have ai:A.all (·.oneCell')=true:=by rw[<-J];exact SL (VK w exSA p fun _ _=>rfl)
 have aa:(prog.info? 46).map (·.size)=some (#[.bool false,.int .i64 0,.int .i64 0,.slice (some ⟨N+2,0,none⟩) 2 2]:Array A0).size:=tN;have aj:a0.size=(#[.bool false,.int .i64 0,.int .i64 0,.slice (some ⟨N+2,0,none⟩) 2 2]:Array A0).size:=by rw[I];rfl
 have ak:(#[.bool false,.int .i64 0,.int .i64 0,.slice (some ⟨N+2,0,none⟩) 2 2]:Array A0).all (·.oneCell')=true:=Wbo;have ab:(prog.info? 24).map (·.size)=some (#[.slice (some ⟨N+5,0,none⟩) 1 1,.bool true]:Array A0).size:=tN;have al:Z.size=(#[.slice (some ⟨N+5,0,none⟩) 1 1,.bool true]:Array A0).size:=zY;have am:(#[.slice (some ⟨N+5,0,none⟩) 1 1,.bool true]:Array A0).all (·.oneCell')=true:=Wbo;have an:zs.length=8:=by rw[<-l];rfl
 rw[hZ] at ad;have ao:=Dm J;have a1:=Dm hN;have ap:Hid ((#[.int .i64 0,.int .i64 0,.int .i64 6,.bool false,.int .i64 5,.slice none 0 0,.slice (some ⟨N+4,0,none⟩) 2 2,.int .i64 0]:Array A0)=zs.toArray):=Dm (by rw[<-l]);have aq:=Dm K;have ar:=Dm L;have au:=Dm O;have av:=Dm P;have aw:=Dm R;have ax:=Dm T;have a4:=Dm g;have a5:=Dm d;have a6:=Dm a;clear J hN l K L O P R T u B D t y z C E F U G V H W p r s hZ f n g a
 go_enter func19,ntmps19
 go_wp2_with (first
  |(with_reducible refine Pw rfl 77 _ rfl (some 4) rfl (AD exSA nilS).toArray tN ?_;rw[ao.out,aq.out])
  |(with_reducible refine BL rfl 77 _ _ rfl A Y 77 rfl rfl X ah ai ?_;rw[ar.out,a4.out,a1.out])
  |(with_reducible refine Nb rfl 77 _ rfl (N+1) rfl 77 A (0,0) _ M Io rfl X ?_)
  |(with_reducible refine Yuf rfl _ _ rfl exSA exSA nilS nilS (N+2) b 7 rfl ?d1 ?d2 ?_;(case d1=>(rw[ao.out];kernel_rfl));(case d2=>(rw[ao.out];kernel_rfl));rw[au.out])
  |(with_reducible refine Pw rfl 46 _ rfl (some 8) rfl #[.bool false,.int .i64 0,.int .i64 0,.slice (some ⟨N+2,0,none⟩) 2 2] tN ?_)
  |(with_reducible refine sH rfl 46 _ _ rfl #[.bool false,.int .i64 0,.int .i64 0,.slice (some ⟨N+2,0,none⟩) 2 2] a0 46 (N+3) a5.out rfl rfl aa aj ak ?_;rw[av.out])
  |(with_reducible refine Nb rfl 46 _ rfl (N+3) rfl 46 #[.bool false,.int .i64 0,.int .i64 0,.slice (some ⟨N+2,0,none⟩) 2 2] (0,0) _ Q Ip rfl aa ?_)
  |(with_reducible refine Pw rfl 39 _ rfl (some 12) rfl #[.int .i64 0,.int .i64 0,.int .i64 6,.bool false,.int .i64 5,.slice none 0 0,.slice (some ⟨N+4,0,none⟩) 2 2,.int .i64 0] tN ?_;rw[ap.out,aw.out])
  |(with_reducible refine SD rfl _ rfl zs an rfl ?_;rw[ax.out,a6.out])
  |(with_reducible refine Pw rfl 24 _ rfl (some 14) rfl #[.slice (some ⟨N+5,0,none⟩) 1 1,.bool true] tN ?_)
  |(with_reducible refine AK rfl 24 _ _ rfl N (#[.slice (some ⟨N+5,0,none⟩) 1 1,.bool true]) Z rfl rfl 24 ae ab al am ?_;intro wq ay az))
 have q:=af.out _ az;exact Hb (Hc rfl _ _ N 24 _ (0,0) _ rfl ay Px rfl ab) rfl ⟨_,rfl,q.1,by rw[a1.out];exact q.2⟩
set_option maxRecDepth 100000 in
theorem Qo7 (w:A5)(ht:Ybt w.heap.size w):A9 prog 9 #[] w fun e G=>e=.returned (.bool true)/\Below w.heap.size w G:=by
 have H:=Rc;have z:=Dm (fun(x:A5) (b:Below w.heap.size w x)=>(by
  have h:=ht.below b;exact Ybt.here h.pats h.mvd h.steps h.tcoef:Ybt x.heap.size x))
 have c1:=TV (s:=⟨#[]⟩) (z.out w (Dn _ _)) sY;unfold SM at c1;rw[show ((⟨#[]⟩:ByteArray).data.toList)=[] from rfl,show CH ctk []=(DE,0,2) from kL ctk] at c1;obtain⟨B,c⟩:=Qow;have F:=cX B c;have C:=Vu H0.sheets H0.fin;obtain⟨T,f,g⟩:=Yzg (l:=FV (CD H0.sheets H0.fin)) (Qjz _) B sX YK;obtain⟨i,j⟩:=gT g;obtain⟨P,A⟩:∃P:ByteArray,⟨(FV (CD H0.sheets H0.fin)).toArray⟩=P:=⟨_,rfl⟩;have k:P.data.toList=FV (CD H0.sheets H0.fin):=by rw[<-A]
 have m:P.size<=140737488355328:=by rw[<-A,LD];omega
 have I:=Dm (fun(x:A5) (b:Below w.heap.size w x) (vs:List A0) (hv:JD x H0 vs)=>(by
  have h:=nZ hv (z.out x b) (Dn _ x);rw[F] at h;dsimp only at h;rw[A] at h;exact h:A9 prog 16 #[.agg vs.toArray] x fun e y=>e=.returned (.tuple #[.string P,.int .i64 0])/\Below x.heap.size x y))
 have J:=Dm (fun(x:A5) (b:Below w.heap.size w x)=>(by
  have h:=TV (s:=P) (z.out x b) m;unfold SM at h;rw[k,f] at h;refine h.mono fun e y h=>?_;obtain⟨vs,K,⟨q,cap,n,-⟩,L⟩:=h;rw[i,j] at n;exact⟨q,cap,by rw[K,n];rfl,L⟩:A9 prog 14 #[.string P] x fun e y=>∃(q:Option Aa) (cap:Nat),e=.returned (.tuple #[.agg #[.slice q 1 cap,.bool true],.int .i64 0,.int .i64 0])/\Below x.heap.size x y))
 have o:=Dm (fun(x y:A5) (b:Below w.heap.size w x) (M:Below x.heap.size x y)=>(b.trans (M.mono b.size):Below w.heap.size w y));clear ht F C f g i j A k m B c z
 go_enter func9,ntmps9
 go_wp2_with fail
 refine c1.mono ?_;rintro e N ⟨vs,rfl,⟨q,cap,rfl,-⟩,D⟩;clear c1;have p:=o.out _ _ D ((Dn _ N).alloc (B9 _) (.cells #[.slice q 0 cap,.bool false] 24 (0,0)))
 go_wp2_with fail
 refine(Qeb _).mono ?_;rintro e U ⟨O,rfl,r,t⟩;have a:=o.out _ _ p t;clear p t;have c2:=I.out _ a O r
 go_wp2_with fail
 refine c2.mono ?_;rintro e V ⟨rfl,u⟩;have d:=o.out _ _ a u;clear c2 a u r
 go_wp2_with fail
 refine(J.out _ d).mono ?_;rintro e Q ⟨R,v,rfl,E⟩;have S:=o.out _ _ (o.out _ _ d E) ((Dn _ Q).alloc (B9 _) (.cells #[.slice R 1 v,.bool true] 24 (0,0)))
 go_wp2
 go_ret
 exact⟨rfl,S⟩
theorem aY (l:List UInt8):∀S∈(CH ctk l).1.sheets,aW S:=by
 intro S b;by_cases h:(CH ctk l).2.2=0
 ·obtain⟨⟨T,a,f⟩,hk⟩:=Ah (CH ctk l);have d:=Y60 Qox l S b;rw[hk] at h b;subst h;obtain⟨-,-,e,-⟩:=kS (Sm l) hk;have h1:=Vs (eH e).2 S b;exact⟨by have:=(Sz h1).2.2.1.2;omega,fun c hc k _=>by have:=d c hc k;omega⟩
 ·rw[(pY (Sm l) h).1] at b;cases b
theorem Qlu {w:A5}{s:ByteArray}(ht:Ybt w.heap.size w)(hs:s.size<=140737488355328):A9 prog 14 #[.string s] w fun e b=>
  ∃(q:Option Aa) (cap:Nat),e=.returned (.tuple #[.agg #[.slice q (CH ctk s.data.toList).1.sheets.length cap,.bool (CH ctk s.data.toList).1.fin],.int .i64 ((CH ctk s.data.toList).2.1:Int),.int .i64 (CH ctk s.data.toList).2.2])/\
   JD b (CH ctk s.data.toList).1 [.slice q (CH ctk s.data.toList).1.sheets.length cap,.bool (CH ctk s.data.toList).1.fin]/\Below w.heap.size w b:=
 (TV ht hs).mono fun _ _ ⟨vs,h1,h2,h3⟩=>by
  have a:=h2;obtain⟨q,cap,rfl,-⟩:=h2;exact⟨q,cap,h1,⟨a,aY _⟩,h3⟩
set_option maxRecDepth 100000 in
theorem pX (q:Option Aa)(cap:Nat)(l:List ShP)(i:Nat)(hi:i<l.length)(w:A5)(hl:HL w q l)(hm:l.length<=maxLen):
  A9 prog 23 #[.slice q l.length cap,.int .i64 (i:Int)] w fun e D=>e=.returned (.bool (CA (BZ (l.take i)) l[i]))/\Below w.heap.size w D:=by
 unfold maxLen at hm;obtain⟨R,v⟩:=Ah (CA (BZ (l.take i)) l[i]);have f:i≠0->(h:i-1<l.length)->R=(!l[i].hd.inter || l[i-1].hd.fmt==l[i].hd.fmt):=fun r h=>by
  have x:(l.take i).length=i:=tB;have h1:=fK (l:=l.take i) sX l[i];rw[v] at h1;rw[h1];simp only[x,Fo]
 have g:i=0->R = !l[i].hd.inter:=fun h=>by rw[<-v];subst h;exact YU _
 rw[v];clear v;obtain⟨b,o,rfl,s,hc⟩:=hl.at_ sX;have d:Below w.heap.size w w:=Dn _ _;obtain⟨I,y,-,a⟩:=hc _ d i hi;obtain⟨z,A,-⟩:=y.parts;have c3:=a 3 _ A;have c2:=a 2 _ z;have t1:decide ((i:Int)<(l.length:Int))=true:=sU;have t2:i<l.length:=hi;by_cases r:i=0
 ·have hF:=g r;subst r;generalize (l[0]).hd.inter=it at hF c3;clear hc y a hl hm g f z A s c2;generalize l.length=n at *;cases it with
  |false=>
   exact Wgb
  |true=>
   have F:=Dm (show R=false by rw[hF];rfl);exact Wgc
 ·obtain⟨G,t,-,c⟩:=hc _ d (i-1) sX;have B:=c 2 _ t.parts.1;have hF:=f r sX;obtain⟨m,u⟩:=Ah (i-1);have J:IntKind.i64.wrap ((i:Int)-1)=(m:Int):=xR;have t3:decide ((m:Int)<(l.length:Int))=true:=sU;have t4:m<l.length:=sX;have t0:0<i:=sX;have t5:decide (0<i)=true:=by simpa using t0
  obtain⟨H,p⟩:=Ah (l[i-1]' sX);obtain⟨E,C⟩:=Ah (l[i]);rw[p,C] at hF;rw[p,u] at B;rw[C] at c2 c3;clear C p u hc y t a c hl hm s z A g f;generalize H.hd.fmt=f1 at *;generalize E.hd.inter=it at *;generalize E.hd.fmt=k at *;generalize l.length=n at *;clear hi r;cases it with
  |false=>
   exact Wgb
  |true=>
   have F:=Dm (show R=(f1==k) by rw[hF];rfl);exact Wgc
theorem Qby {q:Option Aa}{cap k b:Nat}{l:List ShP}{S:ShP}{w:A5}(hk:l.length=k)(c:k+1=b)(hl:HL w q (l++[S]))(hm:b<=64):
  A9 prog 23 #[.slice q b cap,.int .i64 (k:Int)] w fun e d=>e=.returned (.bool (CA (BZ l) S))/\Below w.heap.size w d:=by
 subst hk c;have a:(l++[S]).length=l.length+1:=sV;have h:=pX q cap (l++[S]) l.length sX w hl tK;have e1:(l++[S]).take l.length=l:=Dc;have e2:(l++[S])[l.length]' sX=S:=List.getElem_concat_length rfl _;rw[e1,e2] at h;rw[a] at h;exact h
theorem Y6o {u w x:A5}{S b:ShP}{vs vs':List A0}(r:OW u S vs)(c:OW x b vs')(m:Below u.heap.size u w)(n:Below x.heap.size x w):A9 prog 26 #[.agg vs'.toArray,.agg vs.toArray] w fun e y=>e=.returned (.bool (shB b S))/\Below w.heap.size w y:=by
 obtain⟨⟨p,q,ca,cb,rfl,hl,hn,hs,hr⟩,o,d⟩:=r;obtain⟨⟨s,q',f,g,rfl,h,i,j,k⟩,l,a⟩:=c;exact lQ b S s q' p q f g ca cb w h i (j.below n) (hs.below m) (k.below n) (hr.below m) a d
set_option maxRecDepth 100000 in
theorem Y62 {u x w:A5}{T ao:StrP}{vs vs':List A0}(hT:JD u T vs)(ap:JD x ao vs')(hu:Below u.heap.size u w)(d:Below x.heap.size x w):
  A9 prog 13 #[.agg vs.toArray,.agg vs'.toArray] w fun e w'=>e=.returned (.bool (LM T ao))/\Below w.heap.size w w':=by
 obtain⟨⟨q,cap,rfl,-,V,W⟩,X⟩:=hT;obtain⟨⟨q',c,rfl,-,H,r⟩,I⟩:=ap;obtain⟨l,F⟩:=T;obtain⟨m,s⟩:=ao;dsimp only at *;unfold maxLen at V H;have b:LM ⟨l,F⟩ ⟨m,s⟩=(F==s&&(decide (l.length=m.length)&&(l.zip m).all fun p=>shB p.1 p.2)):=rfl;obtain⟨R,hR⟩:=Ah (LM ⟨l,F⟩ ⟨m,s⟩);rw[hR] at b ⊢;obtain⟨A,wA,Y,hA,Z,aa,aq,ab,ac,ad,ae⟩:=JT w (.cells [Value.slice q l.length cap,.bool F].toArray 24 (0,0)) (.cells [Value.slice q' m.length c,.bool s].toArray 24 (0,0));have j:Hid (∀y,Below (A+2) Y y->(y.cell? ⟨A,0,none⟩=some (.slice q l.length cap)/\y.cell? ⟨A,1,none⟩=some (.bool F))/\(y.cell? ⟨A+1,0,none⟩=some (.slice q' m.length c)/\y.cell? ⟨A+1,1,none⟩=some (.bool s))/\Below w.heap.size w y):=Dm fun y a=>by
  have h1:=(a.block A sX).trans ac;have h2:=(a.block (A+1) sX).trans ad;exact⟨⟨AA (o:=0) h1 rfl,AA (o:=1) h1 rfl⟩,⟨AA (o:=0) h2 rfl,AA (o:=1) h2 rfl⟩,hA▸(ae.trans (a.mono sX))⟩
 have O:Below (A+2) Y Y:=Dn _ _;obtain⟨⟨k0,k1⟩,⟨q0,q1⟩,U⟩:=j.out _ O;have ar:=Dm (fun(y:A5) (a:Below w.heap.size w y)=>(⟨hu.trans (a.mono hu.size),d.trans (a.mono d.size)⟩:Below u.heap.size u y/\Below x.heap.size x y));have E:=Dm Z;have G:=Dm aa;have a5:=Dm hA;have au:=Dm ab;have af:=Dm W;have J:=Dm r;have av:=Dm X;have ag:=Dm I;clear Z aa hA aq ab ac ad ae W r X I hR hu d;have hH:s=F\/s = !F:=by cases F <;> cases s <;> simp
 rcases hH with rfl|rfl
 case inr=>
  have N:=Dm (show R=false by rw[b];cases F <;> rfl);clear b j;cases F <;>
  (go_enter func13,ntmps13
   go_wp2
   go_ret
   have hw:=G.out;simp only[Gy,Gx] at hw;exact⟨AJ N.out.symm,by rw[E.out,hw];exact U⟩)
 by_cases el:l.length=m.length
 case neg=>
  have t2:((l.length:Int) != (m.length:Int))=true:=uF;have N:=Dm (show R=false by rw[b,Gl el];simp);clear b el j af J;cases s <;>
  (go_enter func13,ntmps13
   go_wp2
   go_ret
   exact⟨AJ N.out.symm,by rw[E.out,G.out];exact U⟩)
 have t2:((l.length:Int) != (m.length:Int))=false:=by rw[el];simp
 have ah:=Dm (show R=(l.zip m).all (fun p=>shB p.1 p.2) by rw[b,Gm el];simp);have a3:=Dm el;obtain⟨n,t⟩:=Ah l.length;obtain⟨n',B⟩:=Ah m.length;have aw:=Dm t;have a6:=Dm B;rw[t] at t2 E;rw[B] at t2 G;rw[t] at V j k0;rw[B] at H j q0;rw[t,B];have tf:(s != s)=false:=sV;clear b el t B U
 go_enter func13,ntmps13
 go_wp2
 rw[E.out,G.out,a5.out];clear t2 tf k0 k1 q0 q1
 go_loopw [5] (fun z wr=>∃i:Nat,i<=n/\z=.int .i64 (i:Int)/\Hid ((((l.take i).zip (m.take i)).all fun p=>shB p.1 p.2)=true)/\Below (A+2) Y wr) (fun z _=>n-(intOf z).toNat)
 case atStart=>exact⟨0,Do _,rfl,Dm rfl,O⟩
 case round=>
  clear O;obtain⟨i,hi,rfl,ha,K⟩:=hrel;obtain⟨⟨k0,-⟩,-,U⟩:=j.out _ K;by_cases ai:i<n
  ·have t0:decide ((i:Int)<(n:Int))=true:=sU;have t1:decide (i<n)=true:=by simpa using ai
   have C:i<l.length:=by rw[aw.out];exact ai
   have D:i<m.length:=by rw[<-a3.out];exact C
   have r:i<n':=by rw[<-a6.out];exact D
   have g:A+2<=wr.heap.size:=by have:=K.size;have:=au.out;omega
   obtain⟨b1,o1,rfl,ax,L⟩:=EE.each af.out sX;obtain⟨xs,P,aj⟩:=L i C;obtain⟨b2,o2,rfl,ay,M⟩:=EE.each J.out sX;obtain⟨ys,Q,ak⟩:=M i D;have az:(prog.info? 39).map (·.size)=some xs.length:=by rw[P.shape.1];kernel_rfl
   have a0:(prog.info? 39).map (·.size)=some ys.length:=by rw[Q.shape.1];kernel_rfl
   have a7:=Dm (fun(y:A5) (a:Below wr.heap.size wr y)=>(fun k v hk=>aj y (ar.out y ((j.out y (K.trans (a.mono g))).2.2)).1 k v hk:y.rangeAt b1 (o1+i*8) xs));have a8:=Dm (fun(y:A5) (a:Below wr.heap.size wr y)=>(fun k v hk=>ak y (ar.out y ((j.out y (K.trans (a.mono g))).2.2)).2 k v hk:y.rangeAt b2 (o2+i*8) ys));have a1:=Dm (fun(y:A5) (a:Below wr.heap.size wr y)=>(⟨(j.out y (K.trans (a.mono g))).1.1,(j.out y (K.trans (a.mono g))).2.1.1,K.trans (a.mono g)⟩:y.cell? ⟨A,0,none⟩=some (.slice (some ⟨b1,o1,none⟩) n cap)/\y.cell? ⟨A+1,0,none⟩=some (.slice (some ⟨b2,o2,none⟩) n' c)/\Below (A+2) Y y));have a4:=Dm (fun(y:A5) (a:Below wr.heap.size wr y)=>(by
    have h0:=ar.out y ((j.out y (K.trans (a.mono g))).2.2);exact(Y6o (w:=y) ⟨Q,ag.out m[i] (Bl D)⟩ ⟨P,av.out l[i] (Bl C)⟩ h0.2 h0.1).mono fun e z h=>⟨h.1,a.trans (h.2.mono a.size)⟩:A9 prog 26 #[.agg xs.toArray,.agg ys.toArray] y fun e z=>e=.returned (.bool (shB l[i] m[i]))/\Below wr.heap.size wr z))
   have am:=Dm (fun h=>UH (f:=shB) C D ha.out h);have an:=Dm (fun h=>Up (f:=shB) C D h);generalize shB l[i] m[i]=y at a4 am an;clear aj ak ha P Q ax ay L M U
   go_wp2
   refine E1 (S:=fun x=>Below wr.heap.size wr x) 12 tN tN (Dn _ wr).drew ?_;simp only[Dq,Bk,Gp,Gq];refine AQ ?_;simp only[A1];refine B4 22 _ ⟨A,0,none⟩ (.slice (some ⟨b1,o1,none⟩) n cap) tN rfl rfl (fun x d=>by have c0:=(a1.out x d).1;go_simp) ?_;simp only[A1]
   iterate 2 (refine AQ ?_;simp only[A1])
   refine B4 39 _ ⟨b1,o1+i*8,none⟩ (.agg xs.toArray) tN rfl rfl (fun x d=>SQ x b1 (o1+i*8) 39 xs _ (a7.out x d) Oz rfl az) ?_;simp only[A1];refine AQ ?_;simp only[A1];refine B4 22 _ ⟨A+1,0,none⟩ (.slice (some ⟨b2,o2,none⟩) n' c) tN rfl rfl (fun x d=>by have c0:=(a1.out x d).2.1;go_simp) ?_;simp only[A1]
   iterate 2 (refine AQ ?_;simp only[A1])
   refine B4 39 _ ⟨b2,o2+i*8,none⟩ (.agg ys.toArray) tN rfl rfl (fun x d=>SQ x b2 (o2+i*8) 39 ys _ (a8.out x d) Oz rfl a0) ?_;simp only[A1];refine C2 tN a4.out (fun _=>tN) ?_;simp only[A1];refine AQ ?_;simp only[A1];refine DX fun x d=>?_;have al:=(a1.out _ d).2.2;cases y with
   |true=>
    have N:=Dm (am.out rfl);clear am an
    go_wp2
    go_roundw
    case rel=>exact⟨i+1,sX,tP,N,al⟩
    case measure=>simp[intOf];omega
   |false=>
    have N:=Dm (an.out rfl);have a2:=(j.out _ al).2.2;clear am an
    go_wp2
    go_ret
    exact⟨AJ (by rw[ah.out,N.out]),a2⟩
  ·obtain rfl:i=n:=sX;have t0:decide ((i:Int)<(i:Int))=false:=sV;have t1:decide (i<i)=false:=sV;have N:=Dm (show (l.zip m).all (fun p=>shB p.1 p.2)=true by
    have h:=ha.out;rw[Bh (by have:=aw.out;omega),Bh (by have:=aw.out;have:=a3.out;omega)] at h;exact h)
   go_wp2
   go_ret
   exact⟨AJ (by rw[ah.out,N.out]),U⟩
theorem gE (s:ByteArray)(hs:s.size<=100000):Vb ctk s:=by
 intro inter p x y w h;have b:=N7 s;have d:AH (⟨(A2 s.data.toList).toArray⟩:ByteArray).data.toList=true:=GX _;refine(Qg0 inter ⟨(A2 s.data.toList).toArray⟩ p x y w (by rw[b];omega) (by rw[b];exact h) d).mono ?_;rintro e n ⟨c,q,f,sl,a,rfl,g,m⟩;have a:ctk inter (A2 s.data.toList) x y p=(c,q,f):=a;rw[a];refine⟨sl,rfl,g,m,fun j=>?_⟩;simp only at j;subst j;obtain⟨h1,h2⟩:=VL (GX _) (by rw[AZ];exact h) a;have h3:=h1.2.1;rw[AZ] at h3;obtain⟨k,l⟩:=Z4 h2;refine⟨h3,⟨RS k.1 k.2,RS l.1 l.2⟩,fun i _=>?_⟩;have:=U7 inter (A2 s.data.toList) x y p i;rw[a] at this;simp only at this ⊢;omega
theorem Y7c {l:List UInt8}{p:Nat}(h:8*l.length=p+24):(A2 l).drop (p+22)=[48,48]↔AB l (p+22) 2=0:=by
 have s:=FR (l:=l) (p:=p+22) (n:=2) sX;have h1:=s.at;rw[show (A2 l).drop (p+22+2)=[] from Cd (by rw[AZ];omega),Fa] at h1;rw[h1];constructor
 ·intro h2;have h3:=Bz num h2;rw[IQ] at h3;have h4:=EB l (p+22) 2;have a:num [48,48]=0:=sY;rw[a] at h3;omega
 ·intro h2;rw[h2];rfl
def TL (l:List UInt8)(w:A5)(e:Ae)(a:A5):Prop:=
 ∃vs:List A0,e=.returned (.tuple #[.agg vs.toArray,.int .i64 ((CH ctk l).2.1:Int),.int .i64 (CH ctk l).2.2])/\MI a (CH ctk l).1 vs/\Below w.heap.size w a
set_option maxRecDepth 100000 in
theorem Y6i {w:A5}{s:ByteArray}(hs:s.size<=140737488355328)(bb:s.size<=262144->s.size<=100000):A9 prog 15 #[.string s] w (TL s.data.toList w):=by
 obtain⟨A,hA⟩:=Ah w.heap.size;have dn:=Rc;have bw:=aP;have bx:s.data.toList.length=s.size:=rfl;obtain⟨wA,aj⟩:=Ah (w.alloc (.cells #[.slice none 0 0,.bool false] 24 (0,0)));have bz:wA.heap[A]? =some (.cells [.slice none 0 0,.bool false].toArray 24 (0,0)):=by rw[<-aj,<-hA];exact heap_alloc_new w _
 have bc:Below w.heap.size w wA:=by rw[<-aj];exact(Dn _ w).alloc (B9 _) _
 have b0:wA.heap.size=A+1:=by rw[<-aj,<-hA];simp
 obtain⟨wX,ak⟩:=Ah (wA.alloc (.cells #[.slice none 0 0,.bool false] 24 (0,0)));have b1:wX.heap[A+1]? =some (.cells [.slice none 0 0,.bool false].toArray 24 (0,0)):=by rw[<-ak,<-b0];exact heap_alloc_new wA _
 have bd:Below wA.heap.size wA wX:=by rw[<-ak];exact(Dn _ wA).alloc (B9 _) _
 obtain⟨n,hn⟩:=Ah wX.heap.size;have b2:n=A+2:=by rw[<-hn,<-ak];simp;omega
 have a1:Below A w wX:=hA▸(bc.trans (bd.mono bc.size));have N:Y0a w wX A n (.slice none 0 0) []:=⟨⟨hA,sX,sX⟩,a1,(bd.block A sX).trans bz,b1,HQ.nil n wX⟩;have i:(prog.info? 24).map (·.size)=some (#[.slice none 0 0,.bool false]:Array A0).size:=tN;have R:(#[.slice none 0 0,.bool false]:Array A0).all (·.oneCell')=true:=Wbo;have b3:=Dm aj;have b4:=Dm ak;have de:=Dm hA;have T:=Dm bw;have I:=Dm bx;have dp:=Dm b2;have b5:=N.res;have b6:=N.loc;unfold TL;clear aj ak bw bx bz bc b0 b1 bd hn a1 b2;by_cases a2:262144<s.size
 ·have hE:CH ctk s.data.toList=(DE,0,13):=by unfold CH;exact Bb (by have:=I.out;omega)
  rw[hE];have t0:decide (262144<(s.size:Int))=true:=sU;have t1:decide (262144<s.size)=true:=sU;clear a2 hE hs bb hA
  go_enter func15,ntmps15
  go_wp2_with (first|(rw[b3.out,de.out,b4.out];with_reducible refine Nb rfl 24 _ rfl (A+1) rfl 24 _ (0,0) _ b6 Px rfl i ?_)|(with_reducible refine AK rfl 24 _ _ rfl A _ _ rfl rfl 24 b5 i rfl R ?_;intro wz b d))
  refine Hb (B0 rfl _ _ A 24 _ (0,0) _ rfl b Px rfl i) rfl ?_;exact⟨_,rfl,T.out _,N.bad d⟩
 have ab:s.size<=100000:=bb sX;have t0:decide (262144<(s.size:Int))=false:=sU;have t1:decide (262144<s.size)=false:=sU;obtain⟨E,hE⟩:=Ah (CH ctk s.data.toList);rw[hE];have b7:CU ctk s.data.toList 65 0 []=E:=by rw[<-hE];unfold CH;rw[Ba (by have:=I.out;omega)]
 have df:Hid (CU ctk s.data.toList (65-([]:List ShP).length) 0 []=E):=Dm b7;have dg:=Dm (fun(p:Nat) (x:A5)=>Se s (p:Int) sX x);have dh:=Dm (fun(p:Nat) (hp:p<=8*s.size) (x:A5)=>Y3b ctk s (gE s ab) p hp ab x);have bf:=fun(x:A5)=>Qhu s sX x;have bg:=N7 s;obtain⟨B,hB⟩:∃B:ByteArray,(⟨(A2 s.data.toList).toArray⟩:ByteArray)=B:=⟨_,rfl⟩;have b8:B.data.toList=A2 s.data.toList:=by rw[<-hB]
 rw[hB] at bf bg dg dh;have cx:=Dm b8;have cy:=Dm bg;obtain⟨Y,cz,dq⟩:=Sb;clear hE b7 a2 hs bb hB b8 hA bg
 go_enter func15,ntmps15
 go_wp2_with fail
 rw[b3.out,de.out,b4.out];refine(bf _).mono ?_;rintro e w0 ⟨rfl,b9⟩;have a3:=N.below b9;clear bf b9 N b5 b6 t0 t1
 go_wp2
 go_loopw [7] (fun z wr=>∃(p:Nat) (v:A0) (done:List ShP),z=.int .i64 (p:Int)/\Y0a w wr A n v done/\done.length<=64/\p<=8*s.size/\p%8=0/\Hid (CU ctk s.data.toList (65-done.length) p done=E)) (fun _ wr=>65-ZA (wr.cell? ⟨A+1,0,none⟩))
 case atStart=>exact⟨0,_,[],rfl,a3,Do _,Do _,rfl,df⟩
 case round=>
  clear a3 df;obtain⟨p,v,done,rfl,r,bh,c0,c1,hT⟩:=hrel;have e1:=r.own.ins.1;obtain⟨k,hk⟩:=Ah done.length;rw[hk] at e1 bh;obtain⟨q,cap,hv⟩:∃q cap,v=.slice q k cap:=⟨_,_,e1⟩;subst hv;have t:=Dm hk;obtain⟨a,ha⟩:=Ah (p / 8);have dv:(p:Int).tdiv 8=(a:Int):=Wbk;have wa:IntKind.i64.wrap (a:Int)=(a:Int):=CE sX;have k0:=AA (o:=0) r.loc rfl;have dr:=Dm k0;obtain⟨Z,hZ⟩:=Ah ([Value.slice q k cap,.bool false].toArray);have g:=r.loc;have F:=r.res;rw[hZ] at g;have bi:(prog.info? 24).map (·.size)=some Z.size:=Wa1;have c2:(#[.slice none 0 0,.bool false]:Array A0).size=Z.size:=zY;have c3:Z.all (·.oneCell')=true:=Wbn;have di:=Dm hZ;have al:=Dm (show p=8*a by omega);have ca:=r.ord;have am:=cy.out;have C:E=CU ctk s.data.toList ((64-k)+1) p done:=by rw[<-hT.out];congr 1;omega
  clear e1 ha hZ c1 hk;by_cases U:p=8*s.size
  ·rw[PA (ct:=ctk) (l:=s.data.toList) (p:=p) (done:=done) (64-k) (by rw[I.out];exact U),t.out] at C;have te:((p:Int)==(B.size:Int))=true:=uE;by_cases h0:k=0
   ·have t0:((k:Int)==0)=true:=by rw[h0];rfl
    have W:Hid (E=(DE,a,2)):=Dm (by rw[C,Bb h0,show p / 8=a by have:=al.out;omega]);clear h0 C hT U am g
    exact Wf8
   ·have t0:((k:Int)==0)=false:=uC;have W:Hid (E=(⟨done,false⟩,0,0)):=Dm (by rw[C,Ba h0]);clear h0 C hT U am
    go_wp2_with (first|(with_reducible refine Nb rfl 24 _ rfl (A+1) rfl 24 Z (0,0) _ g Px rfl bi ?_)|(with_reducible refine AK rfl 24 _ _ rfl A Z _ rfl rfl 24 F bi c2 c3 ?_;intro wz b d))
    refine Hb (B0 rfl _ _ A 24 _ (0,0) _ rfl b Px rfl bi) rfl ?_;have hf:=r.fin false (Yah.one (L:=[some A,some (A+1)]) d fun j _ e=>Wba) (by rw[t.out];exact bh);rw[W.out];exact⟨_,by rw[di.out];rfl,hf⟩
  have te:((p:Int)==(B.size:Int))=false:=uC;have cm:=dg.out p wr;obtain⟨⟨mn,mc⟩,aa⟩:=Ah (AM s.data.toList p);rw[aa] at cm;dsimp only at cm;by_cases hm:0<k/\mc=0/\mn=31
  ·obtain⟨h0,rfl,rfl⟩:=hm;have t0:decide (0<k)=true:=by simpa using h0
   have ds:decide (0<(k:Int))=true:=sU;have dt:((k:Int) > 0)=True:=sU;rw[RH (ct:=ctk) (l:=s.data.toList) (p:=p) (done:=done) (64-k) (by rw[I.out];exact U) ⟨by rw[t.out];exact h0,by rw[aa],by rw[aa]⟩,I.out] at C;obtain⟨bj,a4⟩:=Ah (p+22);obtain⟨aw,a5⟩:=Ah (p+24);have du:IntKind.i64.wrap ((p:Int)+22)=(bj:Int):=xR;have dw:IntKind.i64.wrap ((p:Int)+24)=(aw:Int):=xR;have an:=Dm (fun(h:¬ (8*s.size=p+24/\AB s.data.toList (p+22) 2=0))=>(by rw[C,Ba h,show p / 8=a by have:=al.out;omega]:E=(DE,a,5)));have ax:=Dm (fun(h:8*s.size=p+24/\AB s.data.toList (p+22) 2=0)=>(by rw[C,Bb h]:E=(⟨done,true⟩,0,0)));have a6:=Dm a4;have a7:=Dm a5;clear C hT aa a4 a5 U;by_cases hx:8*s.size=p+24
   case neg=>
    have tn:((B.size:Int) != (aw:Int))=true:=by rw[Fj];have:=a7.out;omega
    have W:=Dm (an.out fun h=>hx h.1);clear hx an ax g am
    exact Wgh
   have tn:((B.size:Int) != (aw:Int))=false:=by rw[show (B.size:Int)=(aw:Int) by have:=a7.out;omega];simp
   have dj:bj<=B.size:=by have:=a6.out;omega
   obtain⟨X,hX⟩:=Ah (B.extract bj B.size);have cb:X.data.toList=(A2 s.data.toList).drop (p+22):=by
    rw[<-hX,ByteArray.data_extract,Array.toList_extract,cx.out,a6.out];exact Bh (by rw[Bf,AZ,I.out];omega)
   have ay:X=⟨#[48,48]⟩↔AB s.data.toList (p+22) 2=0:=by
    rw[LO,cb];exact Y7c (by rw[I.out];exact hx)
   clear cb am;by_cases hb:X=⟨#[48,48]⟩
   ·have W:=Dm (ax.out ⟨hx,ay.1 hb⟩);subst hb;rw[<-di.out] at g;have k1:=AA (o:=1) g rfl;have f1:=AL (o:=1) g;have cc:=B3 (o:=1) (.bool true) g;have bk:(wr.setCell ⟨A+1,1,none⟩ (.bool true)).heap[A]? =_:=(Ib _ _ _ _ (show A≠A+1 by omega)).trans F;have cd:=Yah.set (w:=wr) (p:=⟨A+1,1,none⟩) (L:=[some A,some (A+1)]) (.bool true) (Ey _ (Df.2 rfl));obtain⟨ce,ad⟩:=Ah (([Value.slice q k cap,.bool false].set 1 (.bool true)).toArray);rw[ad] at cc;have ao:(prog.info? 24).map (·.size)=some ce.size:=by rw[<-ad];kernel_rfl
    have cg:(#[.slice none 0 0,.bool false]:Array A0).size=ce.size:=by rw[<-ad];rfl
    have ch:ce.all (·.oneCell')=true:=by rw[<-ad];simp[Value.oneCell']
    have c4:=Dm ad;have c5:=Dm cd;clear hx an ax g F ad cd ay
    go_wp2_with fail
    refine cm.mono ?_;rintro e x ⟨rfl,rfl⟩;clear cm
    go_wp2_with (first|(with_reducible refine Nb rfl 24 _ rfl (A+1) rfl 24 ce (0,0) _ cc Px rfl ao ?_)|(with_reducible refine AK rfl 24 _ _ rfl A ce _ rfl rfl 24 bk ao cg ch ?_;intro wz b d))
    refine Hb (B0 rfl _ _ A 24 _ (0,0) _ rfl b Px rfl ao) rfl ?_;have hf:=r.fin true (c5.out.trans (Yah.one (L:=[some A,some (A+1)]) d fun j _ e=>Wba) fun j _ h=>h) (by rw[t.out];exact bh);rw[W.out];exact⟨_,by rw[<-c4.out];rfl,hf⟩
   ·have W:=Dm (an.out fun h=>hb (ay.2 h.2));have bl:=bR hb;have tb:(X.toList == [48,48])=false:=by
     rw[Py] at bl ⊢;rw[Py] at bl;exact bl
    clear hx an ax g ay hb
    exact Wgh
  obtain⟨⟨S,q2,f⟩,hw⟩:=Ah (wtk ctk s.data.toList p);rw[YT (done:=done) (64-k) (fun h0=>⟨by rw[I.out];exact U,fun e=>hm ⟨by have:=t.out;omega,by rw[aa] at e;exact e.1,by rw[aa] at e;exact e.2⟩⟩) hw,t.out] at C;have ct:=dh.out p c0 wr;unfold VB at ct;rw[hw] at ct;dsimp only at ct;obtain⟨d1,ci⟩:=Ah (decide (0<k));obtain⟨d2,c6⟩:=Ah (mc==0);obtain⟨d3,c7⟩:=Ah (mn==31);have dk:decide (0<(k:Int))=d1:=by rw[<-ci];simp
  have hd:d1=false\/(d1=true/\d2=false)\/(d1=true/\d2=true/\d3=false):=by
   cases d1 with
   |false=>exact .inl rfl
   |true=>
    cases d2 with
    |false=>exact .inr (.inl ⟨rfl,rfl⟩)
    |true=>
     cases d3 with
     |false=>exact .inr (.inr ⟨rfl,rfl,rfl⟩)
     |true=>exact absurd ⟨Fm ci,by simpa using c6,by simpa using c7⟩ hm
  have O:=Dm C;have dl:=Dm hw;clear C hw hm aa U hT am g;rcases hd with rfl|⟨rfl,rfl⟩|⟨rfl,rfl,rfl⟩
  all_goals
   go_wp2_with fail
   refine cm.mono ?_;rintro e x ⟨rfl,rfl⟩;clear cm
   go_wp2_with fail
   refine ct.mono ?_;rintro e w5 ⟨J,rfl,ap,cj⟩;clear ct;have a8:=r.below cj;have ck:ShK (E8 wr.heap.size) w5 S J:=ShK.low fun x L hL hx=>ap x L hL hx;have hK:ShK ((Value.slice q k cap).ownBlock::E8 n) w5 S J:=ShK.own r.own (B9 _) ca.2.2 ck;obtain⟨D,hD⟩:=Ah w5.heap.size;obtain⟨w6,az⟩:=Ah (w5.alloc (.cells J.toArray 39 (0,0)));have bm:Below w5.heap.size w5 w6:=by rw[<-az];exact(Dn _ w5).alloc (B9 _) _
   have bn:w6.heap[D]? =some (.cells J.toArray 39 (0,0)):=by rw[<-az,<-hD];exact heap_alloc_new w5 _
   have P:=a8.below bm;have ae:=hK.shape.1;have cl:=hK.shape.2;have bo:=hK.shV.ones;have aq:(prog.info? 39).map (·.size)=some J.toArray.size:=by rw[show J.toArray.size=8 from ae];kernel_rfl
   have bp:Y.size=J.toArray.size:=by rw[cz];exact ae.symm
   have bq:=Dm az;have c8:=Dm hD;clear ap ck cj az hD F;by_cases hf:f=0
   case neg=>
    have tf:(f != 0)=true:=Wa8;have G:G2 f k (CA (BZ done) S)=f:=Bb hf;have W:Hid (E=(DE,a,f)):=Dm (by rw[O.out,G,Bb hf,show p / 8=a by have:=al.out;omega]);have bk:=P.res;clear hf bn hK O G
    go_wp2_with (first|(with_reducible refine BL rfl 39 _ _ rfl J.toArray Y 39 rfl rfl aq bp bo ?_;rw[bq.out,c8.out])|(with_reducible refine AK rfl 24 _ _ rfl A _ _ rfl rfl 24 bk i rfl R ?_;intro wz b d))
    refine Hb (B0 rfl _ _ A 24 _ (0,0) _ rfl b Px rfl i) rfl ?_;rw[W.out];exact⟨_,rfl,T.out _,P.bad d⟩
   subst hf;have tf:((0:Int) != 0)=false:=rfl;have cn:=TD dl.out;have br:=(Rg (Sm s.data.toList) dl.out).2.2.2.2.2.2.1;rw[AZ,I.out] at br;obtain⟨Q,hQ⟩:=Ah w6.heap.size;obtain⟨wQ,a0⟩:=Ah (w6.alloc (.cells J.toArray 39 (0,0)));have bs:Below w6.heap.size w6 wQ:=by rw[<-a0];exact(Dn _ w6).alloc (B9 _) _
   have co:wQ.heap[Q]? =some (.cells J.toArray 39 (0,0)):=by rw[<-a0,<-hQ];exact heap_alloc_new w6 _
   have a9:=P.below bs;have cp:=(hK.below bm).below bs;have cq:∀(j:Nat) u,J[j]? =some u->wQ.cell? ⟨Q,j,none⟩=some u:=fun j u hu=>AA co hu;have k6:=AA (o:=0) P.loc rfl;obtain⟨ri,rz,j0,j1,j2,j3,j4⟩:=Xf;obtain⟨k1,bt⟩:=Ah (k+1);have bu:Hid (done.length+1=k1):=Dm (by rw[t.out];exact bt);have H:=Dm bt;have m:=Dm a9;have dm:=Dm hQ;have cr:=Dm a0;have cs:=Dm cq;have da:=Dm cn;have db:=Dm br;clear cn br bm hQ a0 bs co a9 cq hK P a8 r k0 bt;by_cases cu:k=64
   ·have tg:decide (64<(k1:Int))=true:=Wbm;have dc:decide (64<k1)=true:=Wbm;have G:G2 0 k (CA (BZ done) S)=13:=by unfold G2;rw[Ba (by decide),Bb (by omega)]
    have W:Hid (E=(DE,a,13)):=Dm Wbd;clear cu G O
    go_wp2_with (first|(with_reducible refine BL rfl 39 _ _ rfl J.toArray Y 39 rfl rfl aq bp bo ?_;rw[bq.out,c8.out])|(with_reducible refine Nb rfl 39 _ rfl D rfl 39 J.toArray (0,0) _ bn Oz rfl aq ?_)|(with_reducible refine SD rfl _ rfl J ae rfl ?_;rw[cr.out,dm.out])|(at_builtin;refine O2 (V:=ShK ((Value.slice q k cap).ownBlock::E8 n) wQ) (w:=wQ) (c:=8) (bytes:=96) (base:=n) (v:=.slice q k cap) (l:=done) (y:=S) (vs:=J) (K:=Q) (cap:=1) rfl rfl Pz j0 j1 j2 j3 j4 sY ?d1 ?d2 m.out.own cp ae cl cs.out ?d3 ?d4 m.out.ord.2.2 ?_;(case d1=>kernel_rfl);(case d2=>kernel_rfl);(case d3=>(have:=t.out;unfold maxLen;omega));(case d4=>(have:=t.out;omega));intro q9 ar w9 af ag ah;rw[bu.out] at af ah ⊢;have ai:=(ag.block (A+1) (by have:=m.out.ord;omega) fun e=>Wbg).trans m.out.loc;have c9:=AA (o:=0) ai rfl;have f9:=AL (o:=0) ai;have M:=m.out.app af ag ah;have bv:=M.1.res;have kZ:=AA (o:=0) M.1.loc rfl)|(with_reducible refine AK rfl 24 _ _ rfl A _ _ rfl rfl 24 bv i rfl R ?_;intro wz b d))
    refine Hb (B0 rfl _ _ A 24 _ (0,0) _ rfl b Px rfl i) rfl ?_;rw[W.out];exact⟨_,rfl,T.out _,M.1.bad d⟩
   have tg:decide (64<(k1:Int))=false:=Wbm;have dc:decide (64<k1)=false:=Wbm;have ws:IntKind.i64.wrap ((k1:Int)-1)=(k:Int):=by rw[CE (by have:=H.out;omega)];have:=H.out;omega
   have au:=Dm (show k<64 by omega);clear cu
   go_wp2_with (first|(with_reducible refine BL rfl 39 _ _ rfl J.toArray Y 39 rfl rfl aq bp bo ?_;rw[bq.out,c8.out])|(with_reducible refine Nb rfl 39 _ rfl D rfl 39 J.toArray (0,0) _ bn Oz rfl aq ?_)|(with_reducible refine SD rfl _ rfl J ae rfl ?_;rw[cr.out,dm.out])|(at_builtin;refine O2 (V:=ShK ((Value.slice q k cap).ownBlock::E8 n) wQ) (w:=wQ) (c:=8) (bytes:=96) (base:=n) (v:=.slice q k cap) (l:=done) (y:=S) (vs:=J) (K:=Q) (cap:=1) rfl rfl Pz j0 j1 j2 j3 j4 sY ?d1 ?d2 m.out.own cp ae cl cs.out ?d3 ?d4 m.out.ord.2.2 ?_;(case d1=>kernel_rfl);(case d2=>kernel_rfl);(case d3=>(have:=t.out;unfold maxLen;omega));(case d4=>(have:=t.out;omega));intro q9 ar w9 af ag ah;rw[bu.out] at af ah ⊢;have ai:=(ag.block (A+1) (by have:=m.out.ord;omega) fun e=>Wbg).trans m.out.loc;have c9:=AA (o:=0) ai rfl;have f9:=AL (o:=0) ai;have M:=m.out.app af ag ah;have bv:=M.1.res;have kZ:=AA (o:=0) M.1.loc rfl))
   have av:(done++[S]).length=k1:=by rw[B8];exact bu.out
   have cf:=Qby (cap:=ar) t.out H.out M.1.own.ins.2.2.2 (by have:=H.out;have:=au.out;omega);have cv:=Dm av;clear av ai c9 f9 bv kZ af ag ah;generalize CA (BZ done) S=fo at *;refine cf.mono ?_;rintro e dx ⟨rfl,ba⟩;have ac:=M.1.below ba;clear cf M ba;cases fo with
   |false=>
    have G:G2 0 k false=11:=by unfold G2;rw[Ba (by decide),Ba (by have:=au.out;omega),Bb rfl]
    have W:Hid (E=(DE,a,11)):=Dm Wbd;have cw:=ac.res;clear G O
    go_wp2_with (with_reducible refine AK rfl 24 _ _ rfl A _ _ rfl rfl 24 cw i rfl R ?_;intro wz b d)
    refine Hb (B0 rfl _ _ A 24 _ (0,0) _ rfl b Px rfl i) rfl ?_;rw[W.out];exact⟨_,rfl,T.out _,ac.bad d⟩
   |true=>
    have G:G2 0 k true=0:=by unfold G2;rw[Ba (by decide),Ba (by have:=au.out;omega),Ba (by decide)]
    have dd:Hid (CU ctk s.data.toList (65-(done++[S]).length) q2 (done++[S])=E):=Dm (by
     rw[O.out,G,Ba sY,cv.out,show 65-k1=64-k by have:=H.out;omega])
    have kT:=AA (o:=0) ac.loc rfl;clear G O
    go_wp2
    go_roundw
    case rel=>exact⟨q2,.slice q9 k1 ar,done++[S],tP,ac,by rw[cv.out];have:=H.out;have:=au.out;omega,db.out,da.out,dd⟩
    case measure=>
     rw[dr.out,kT];show 65-k1<65-k;have:=H.out;have:=au.out;omega
set_option maxRecDepth 100000 in
theorem Ypk (s:ByteArray)(w:A5)(_hss:s.size<=maxLen)(S:s.size<=140737488355328)(ht:Ybt w.heap.size w):
  A9 prog 4 #[.string s] w fun e w'=>e=.returned (.bool true)/\Below w.heap.size w w':=by
 have ah:=Rc;have C:=Dm (fun(x:A5) (A:Below w.heap.size w x)=>(by
  have h:=ht.below A;exact Ybt.here h.pats h.mvd h.steps h.tcoef:Ybt x.heap.size x))
 have U:=Dm (fun(x y:A5) (A:Below w.heap.size w x) (hy:Below x.heap.size x y)=>(A.trans (hy.mono A.size):Below w.heap.size w y));have D:=Dm (fun(x:A5) (A:Below w.heap.size w x)=>Qo7 x (C.out x A));have h0:Below w.heap.size w w:=Dn _ _;clear ht;by_cases c:6000<s.size/\s.size<=262144
 ·have t0:decide (6000<(s.size:Int))=true:=sU;have t1:decide ((s.size:Int)<=262144)=true:=sU;have t2:decide (6000<s.size)=true:=sU;have t3:decide (s.size<=262144)=true:=sU;clear c S _hss
  go_enter func4,ntmps4
  go_wp2_with fail
  refine(D.out _ h0).mono ?_;rintro e t ⟨rfl,l⟩
  go_wp2
  go_ret
  exact⟨rfl,l⟩
 have c1:=Qlu (C.out w h0) S;have E:=Dm (fun(x:A5)=>Y6i (w:=x) S sX);unfold TL at E;have m:=aY s.data.toList;obtain⟨⟨T,a,f⟩,hk⟩:=Ah (CH ctk s.data.toList);rw[hk] at c1 E m;dsimp only at c1 E m;have W:=Dm m;obtain⟨d1,G⟩:=Ah (decide (6000<s.size));obtain⟨d2,H⟩:=Ah (decide (s.size<=262144));have af:decide (6000<(s.size:Int))=d1:=by rw[<-G];simp;omega
 have ag:decide ((s.size:Int)<=262144)=d2:=by rw[<-H];simp;omega
 have hd:d1=false\/(d1=true/\d2=false):=by
  cases d1 with
  |false=>exact .inl rfl
  |true=>
   cases d2 with
   |false=>exact .inr ⟨rfl,rfl⟩
   |true=>exact absurd ⟨Fm G,Fm H⟩ c
 clear c hk m S _hss;obtain⟨k,u⟩:=Ah T.sheets.length;obtain⟨F,hF⟩:=Ah T.fin;rw[u,hF] at c1;have Z:=Dm u;have ai:=Dm hF;clear u hF;rcases hd with rfl|⟨rfl,rfl⟩
 all_goals
  go_enter func4,ntmps4
  go_wp2_with fail
  refine c1.mono ?_;rintro e B ⟨q,cap,rfl,I,J⟩;obtain⟨X,V⟩:=Ah B.heap.size;obtain⟨t,d⟩:=Ah (B.alloc (.cells #[.slice q k cap,.bool F] 24 (0,0)));have g:Below B.heap.size B t:=by rw[<-d];exact(Dn _ B).alloc (B9 _) _
  have K:t.heap[X]? =some (.cells #[.slice q k cap,.bool F] 24 (0,0)):=by rw[<-d,<-V];exact heap_alloc_new B _
  have aa:t.heap.size=X+1:=by rw[<-d,<-V];simp
  have o:=I.below g;have l:=U.out _ _ J g;have aj:=Dm V;have ab:=Dm d;clear V d g J c1 I
  go_wp2_with fail
  rw[ab.out,aj.out];refine(E.out t).mono ?_;rintro e v ⟨us,rfl,L,z⟩;have p:JD v T us:=⟨L,W.out⟩;obtain⟨q3,i,M,-⟩:=L;rw[Z.out,ai.out] at M;subst M;obtain⟨Y,hY⟩:=Ah v.heap.size;obtain⟨w4,n⟩:=Ah (v.alloc (.cells #[.slice q3 k i,.bool F] 24 (0,0)));have j:Below v.heap.size v w4:=by rw[<-n];exact(Dn _ v).alloc (B9 _) _
  have N:w4.heap[Y]? =some (.cells #[.slice q3 k i,.bool F] 24 (0,0)):=by rw[<-n,<-hY];exact heap_alloc_new v _
  have b:Below t.heap.size t w4:=z.trans (j.mono z.size);have O:=(b.block X sX).trans K;have P:=U.out _ _ l b;have cs:=Y62 o p b j;rw[Qh4] at cs;have ac:(prog.info? 24).map (·.size)=some (#[.slice q k cap,.bool F]:Array A0).size:=tN;have Q:(prog.info? 24).map (·.size)=some (#[.slice q3 k i,.bool F]:Array A0).size:=tN;have ak:=Dm hY;have ad:=Dm n;clear hY n j b K aa o p z l E
  go_wp2_with (first|(rw[ad.out,ak.out];with_reducible refine Nb rfl 24 _ rfl X rfl 24 _ (0,0) _ O Px rfl ac ?_)|(with_reducible refine Nb rfl 24 _ rfl Y rfl 24 _ (0,0) _ N Px rfl Q ?_))
  refine cs.mono ?_;rintro e w5 ⟨rfl,r⟩;have R:=U.out _ _ P r;clear cs O N P r
  go_wp2_with fail
  refine(D.out _ R).mono ?_;rintro e w6 ⟨rfl,ae⟩;have hE:=U.out _ _ R ae
  go_wp2
  go_ret
  exact⟨rfl,hE⟩
end Go.Proofs.YtjjmalchelniiaaGreatDoor