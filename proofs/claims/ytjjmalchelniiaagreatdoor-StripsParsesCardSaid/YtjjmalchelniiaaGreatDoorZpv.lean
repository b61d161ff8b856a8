/- No condition. -/
import Derived.Test.YtjjmalchelniiaaGreatDoorZps
import Derived.Deep.AppendLies
open Go.Proofs.Tryz
set_option maxHeartbeats 2000000
namespace Go.Proofs.YtjjmalchelniiaaGreatDoor
open Go.RowKit Go.Lib
theorem vW{p:Prop}(h:p:=by injection hk with hk;omega):p:=h
abbrev Kw:=@List.getElem?_append_right
abbrev Kx:=@World.ownsRow_lit
abbrev Ky:=@List.foldl_append
def KJ (l:List UInt8):List (List UInt8)×List UInt8:=l.foldl (fun p c=>if c=32 then (p.1++[p.2],[]) else (p.1,p.2++[c])) ([],[])
def Qm (l:List UInt8):List (List UInt8):=(KJ l).1++[(KJ l).2]
theorem gS (l:List UInt8)(c:UInt8):KJ (l++[c])=if c=32 then ((KJ l).1++[(KJ l).2],[]) else ((KJ l).1,(KJ l).2++[c]):=by
 unfold KJ;rw[Ky]
 rfl
def I1 (l:List ByteArray):List (List UInt8):=l.map fun x=>x.data.toList
def sF (s:ByteArray)(w:World)(e:Ending)(b:World):Prop:=
 ∃(l:List ByteArray) (q:Option Addr) (cap:Nat),e=.returned (.slice q l.length cap)/\I1 l=Qm s.data.toList/\DN b q l/\l.length<=201/\(∀a,q=some a->w.heap.size<=a.block)/\Below w.heap.size w b
set_option maxRecDepth 100000 in
theorem bO (s:ByteArray)(hs:s.size<=200)(w:World):Calls prog 183 #[.string s] w (sF s w):=by
 obtain⟨X,hi,t,x,z⟩:=Ds Q1;obtain⟨B,A⟩:=Ah w.heap.size;have K:=Dm A;have m:Below B w (w.alloc (.cells #[.string ⟨#[]⟩] 9 (0,0))):=by rw[<-A];exact(Dn _ w).alloc (B9 _) _
 have o:(w.alloc (.cells #[.string ⟨#[]⟩] 9 (0,0))).ownsRow B 9 1 (.slice (some ⟨B,0,none⟩) 1 1) 1 (DA ([]++[⟨#[]⟩])):=A▸Kx w #[.string ⟨#[]⟩] 1 sX tK rfl;have p:B<=(w.alloc (.cells #[.string ⟨#[]⟩] 9 (0,0))).heap.size:=tO
 go_enter func183,ntmps183
 go_wp2
 go_loopw [3,4] (fun u v wr=>∃(i:Nat) (l:List ByteArray) (y:ByteArray),i<=s.size/\v=.int .i64 i/\wr.ownsRow B 9 1 u (l.length+1) (DA (l++[y]))/\y.size<=i/\l.length<=i/\Hid (KJ (s.data.toList.take i)=(I1 l,y.data.toList))/\Below B w wr/\B<=wr.heap.size) (fun _ v _=>s.size-(intOf v).toNat)
 case atStart=>exact⟨0,[],⟨#[]⟩,Do _,rfl,o,Do _,Do _,Dm rfl,m,p⟩
 case round=>
  clear o m p;obtain⟨i,l,y,R,rfl,f,Y,hl,c,C,L⟩:=hrel;by_cases r:i<s.size
  ·obtain⟨g,cap,rfl,D,N⟩:=f.form sX;have b:KJ (s.data.toList.take (i+1))=if s[i]=32 then (I1 l++[y.data.toList],[]) else (I1 l,y.data.toList++[s[i]]):=by
    rw[Bd r,gS,c.out]
    rfl
   have hcut:s.extract i (i+1)=⟨#[s[i]]⟩:=by
    apply LO.2;rw[Km];have h2:i<s.data.toList.length:=r;rw[Bm,Fl h2]
    rfl
   by_cases hc:s[i]=32
   ·rw[Bb hc] at b;have M:=Dm b;have S:((s[i].toNat:Int)==32)=true:=by rw[hc];rfl
    clear b c hc hcut
    go_wp2_with (at_builtin;refine S5 (y0:=⟨#[]⟩) rfl rfl underlying163 hi t rfl x z rfl (f.alloc _) rfl ?d1 ?d2 ?d3 ?_;(case d1=>go_cell);(case d2=>omega);(case d3=>(simp;omega));intro Z O E d;have hg4:World.grownBy _ O (some g):=d;have G:=(C.alloc L _).grown hg4 tO (fun k hk=>vW);have H:B<=O.heap.size:=Ef tO hg4.size;clear d)
    go_roundw
    case rel=>exact⟨i+1,l++[y],⟨#[]⟩,sX,tP,by rw[OP,B8];exact E,Do _,by rw[B8];simp;omega,Dm (by rw[M.out];simp[I1]),G,H⟩
    case measure=>simp[intOf];omega
   ·rw[Ba hc] at b;have M:=Dm b;have S:((s[i].toNat:Int)==32)=false:=by
     rw[Fe];intro e;exact hc (Jl.1 (by show s[i].toNat=32;omega))
    have c0:wr.cell? ⟨g,l.length,none⟩=some (.string y):=by
     rw[f.cellAt l.length sX,OP,Kw (by simp[DA])];simp[DA]
    have f0:=f.frozenAt l.length;have ST:=Dm (fun u=>f.stored l.length u);have T:=Dm hcut;have s1:=Dm (show (i:Int)<=(i:Int)+1 by omega);have P:=Dm (show (DA (l++[y])).set l.length (.string (y++⟨#[s[i]]⟩))=DA (l++[y++⟨#[s[i]]⟩]) by simp[DA]);obtain⟨n,hn⟩:=Ah l.length;rw[hn] at c0 f0 ST P hl;rw[hn];have Q:=Dm hn;have U:IntKind.i64.wrap (n:Int)=(n:Int):=Kd _ sX;have V:IntKind.i64.wrap ((i:Int)+1)=(i:Int)+1:=Kd _ sX;clear b c hc hcut f hn
    go_wp2
    go_region
    go_wp2
    go_roundw
    case rel=>
     rw[T.out];obtain⟨h1,h2⟩:=ST.out (.string (y++⟨#[s[i]]⟩));rw[P.out] at h1;exact⟨i+1,l,y++⟨#[s[i]]⟩,sX,tP,by rw[Q.out];exact h1.drew,by have e1:(⟨#[s[i]]⟩:ByteArray).size=1:=rfl;rw[ByteArray.size_append];omega,by rw[Q.out];omega,Dm (by rw[M.out];simp),(C.setCell D _).drew,Ef L h2.size⟩
    case measure=>simp[intOf];omega
  ·obtain rfl:i=s.size:=sX;have F:=Dm (show I1 (l++[y])=Qm s.data.toList by
    have:=c.out;rw[show s.data.toList.take s.size=s.data.toList from Bh (B9 _)] at this;unfold Qm;rw[this];simp[I1])
   have j:wr.ownsRow B 9 1 u3 (l++[y]).length (DA (l++[y])):=by rw[B8];exact f
   obtain⟨q,cap,rfl,I⟩:=Tg j;have W:=Dm (show∀a,q=some a->w.heap.size<=a.block from fun a h=>by subst h;rw[K.out];exact FT j a.block rfl);have J:=Dm (show (l++[y]).length<=201 by rw[B8];simp;omega);clear f j c
   go_wp2
   go_ret
   exact⟨l++[y],q,cap,rfl,F.out,I,J.out,W.out,by rw[K.out];exact C⟩
end Go.Proofs.YtjjmalchelniiaaGreatDoor