/- No condition. -/
import Derived.Test.YtjjmalchelniiaaGreatDoorZpb
import Derived.Test.YtjjmalchelniiaaGreatDoorZpc
import Derived.Test.YtjjmalchelniiaaGreatDoorRows
import Derived.WalkKit
import Derived.WalkSpells
import Derived.ProofKit
import Derived.Lib.Hide
open Go.Proofs.Tryz
set_option maxHeartbeats 1000000
namespace Go.Proofs.YtjjmalchelniiaaGreatDoor
open Go.RowKit
theorem tN{p:Prop}(h:p:=by kernel_rfl):p:=h
theorem tO{p:Prop}(h:p:=by simp;omega):p:=h
theorem tP{p:Prop}(h:p:=by go_num):p:=h
theorem tR{p:Prop}(h:p:=by have:s.data.toList[j]=s[j]:=rfl;rw[this] at hc;omega):p:=h
theorem tS{p:Prop}(h:p:=by simpa using d):p:=h
abbrev Dm:=@Lib.hid
abbrev Dn:=@Below.refl
abbrev Do:=@Nat.zero_le
abbrev Dp:=@Int.toNat_natCast
abbrev Dq:=@List.take_succ_cons
abbrev Dr:=@Int.eq_ofNat_of_zero_le
abbrev Ds:=@info_parts
abbrev Dt:=@underlying95
abbrev Du:=@underlying9
abbrev Dv:=@Nat.div_le_self
abbrev Dw:=@Nat.div_div_eq_div_mul
abbrev Dx:=@underlying5
abbrev Dy:=@List.all_append
theorem qD (m j x:Nat)(h:m / 2^j=x):m / 2^(j+1)=x / 2:=by rw[Cp,<-Dw,h]
def EW (v n:Int):Bool:=decide (0<=n/\n<=32/\0<=v/\v<2^n.toNat)
theorem Qmc (vi a:Int)(h1:0<=vi)(h2:vi<=9223372036854775807)(h3:0<=a)(h4:a<=32)(w:World):
  Calls prog 62 #[.int .i64 vi,.int .i64 a] w fun e c=>e=.returned (.string ⟨(AF vi.toNat a.toNat).toArray⟩)/\w=c:=by
 obtain⟨v,rfl⟩:=Dr h1;obtain⟨n,rfl⟩:=Dr h3;simp only[Dp];have f:v<=9223372036854775807:=sX;have g:n<=32:=sX;clear h1 h2 h3 h4
 go_enter func62,ntmps62
 go_wp2
 go_loop [0,5,6] (fun x s i=>∃j y:Nat,j<=n/\i=.int .i64 j/\x=.int .i64 y/\s=.string ⟨(AF v j).toArray⟩/\v / 2^j=y) (fun _ _ i=>n-(intOf i).toNat)
 case atStart=>exact⟨0,v,Do _,rfl,rfl,rfl,sZ⟩
 case round=>
  obtain⟨j,y,hj,rfl,rfl,rfl,b⟩:=hrel;have h:y<=v:=by rw[<-b];exact Dv _ _
  have Y:=Dm b;clear b;have hl:(AF v j).length<=32:=by rw[BS];omega
  by_cases d:j<n
  ·go_wp2
   go_round
   case rel=>exact⟨j+1,y / 2,sX,tP,tP,by rw[sS _ _ _ Y.out],qD _ _ _ Y.out⟩
   case measure=>simp[intOf];omega
  ·obtain rfl:j=n:=sX
   go_wp2
   go_ret
   exact⟨rfl,rfl⟩
theorem kM (p:UInt8->Bool)(l:List UInt8)(j:Nat)(h:j<l.length):(l.take (j+1)).all p=((l.take j).all p&&p l[j]):=by
 rw[Bd h,Dy];simp
theorem Ql2 {a b:List UInt8}(h:a=b):Ending.returned (.string ⟨a.toArray⟩)=.returned (.string ⟨b.toArray⟩):=tE
theorem fB {w:World}{base e:Nat}{v:Value}{l:List UInt8}(h:DT w base e v l):∀k,v.ownBlock=some k->base<=k:=by
 intro k hk;rcases h.2 with ⟨rfl,_⟩|⟨g,cap,a,rfl,hg,_⟩
 ·cases hk
 ·cases hk;exact hg
theorem Wp:(prog.info? 5).map (fun i=>(i.zero,i.size,i.bytes))=some (some (.int .u8 0),1,1):=tN
theorem Qhu (s:ByteArray)(hs:s.size<=1048576)(w:World):
  Calls prog 33 #[.string s] w fun e o=>e=.returned (.string ⟨(A2 s.data.toList).toArray⟩)/\Below w.heap.size w o:=by
 obtain⟨u,hi,f,g,h⟩:=Ds Wp;obtain⟨B,p⟩:∃B,w.heap.size=B:=⟨_,rfl⟩;have q:B<=w.heap.size:=sX;rw[p];clear p
 go_enter func33,ntmps33
 go_wp2
 go_loopw [3,4] (fun v i wr=>∃j:Nat,j<=s.size/\i=.int .i64 j/\DT wr B 5 v (A2 (s.data.toList.take j))/\Below B w wr) (fun _ i _=>s.size-(intOf i).toNat)
 case atStart=>exact⟨0,Do _,rfl,DT.nil _ _ _,Dn _ _⟩
 case round=>
  obtain⟨j,hj,rfl,a,k⟩:=hrel;have r:=k.size;by_cases l:j<s.size
  ·have m:0<=(s[j].toNat:Int):=sX;have n:(s[j].toNat:Int)<=9223372036854775807:=by have:=s[j].toNat_lt;omega
   have d:=oP s.data.toList j l;have T:=Dm d;have t:(A2 (s.data.toList.take j)).length<=8388608:=by rw[AZ,Be];omega
   clear d
   go_wp2_with (first
    |(go_at_call 62;refine(Qmc _ _ m n sX sX _).mono ?_;rintro e o ⟨rfl,rfl⟩)
    |(at_builtin;refine lX rfl rfl Dt Du hi f g h rfl a rfl ?c1 ?c2 ?c3;(case c1=>(simp only[BS];omega));(case c2=>omega);intro x y b c))
   go_roundw
   case rel=>exact⟨j+1,sX,tP,by rw[T.out];exact b,k.grown c sX (fB a)⟩
   case measure=>simp[intOf];omega
  ·obtain rfl:j=s.size:=sX;have ht:=DT.text Dt Dx Du a
   go_wp2
   go_ret
   exact⟨Ql2 (by rw[Bh (by exact B9 _)]),k⟩
theorem ND (s:ByteArray)(hs:s.size<=32)(hr:AH s.data.toList=true)(w:World):
  Calls prog 63 #[.string s] w fun e f=>e=.returned (.int .i64 (num s.data.toList))/\w=f:=by
 have a:∀j,j<=s.size->num (s.data.toList.take j)<=4294967296:=fun j hj=>by
  have h1:=K0 s.data.toList hr j hj;have h2:2^j<=2^32:=Br sX (by omega:j<=32);omega
 have R:=Dm hr;have g:=Dm a;clear hr a
 go_enter func63,ntmps63
 go_wp2
 go_loop [3,4] (fun n i=>∃j y:Nat,j<=s.size/\i=.int .i64 j/\n=.int .i64 y/\num (s.data.toList.take j)=y) (fun _ i=>s.size-(intOf i).toNat)
 case atStart=>exact⟨0,0,Do _,rfl,rfl,rfl⟩
 case round=>
  obtain⟨j,y,hj,rfl,rfl,d⟩:=hrel;have h:=g.out j hj;rw[d] at h;have Y:=Dm d;clear d;by_cases c:j<s.size
  ·have hc:=NN s.data.toList j c R.out;have k:48<=(s[j].toNat:Int):=tR;have l:(s[j].toNat:Int)<=49:=tR;have b:num (s.data.toList.take (j+1))=2*num (s.data.toList.take j)+(s[j].toNat-48):=SK s.data.toList j c;rw[Y.out] at b;have S:=Dm b;clear b hc
   go_wp2
   go_round
   case rel=>exact⟨j+1,2*y+(s[j].toNat-48),sX,tP,tP,S.out⟩
   case measure=>simp[intOf];omega
  ·obtain rfl:j=s.size:=sX
   go_wp2
   go_ret
   exact⟨ES (by rw[<-Y.out,Bh (by exact B9 _)]),rfl⟩
theorem SF (x:Int):bits .and .i64 x 1=x%2:=LQ x 1 sX
theorem Qaq (y:Nat):(((F9 y).toNat:Nat):Int)=48+(y:Int)%2:=by
 have h:y%2=0\/y%2=1:=sX;unfold F9;rcases h with h|h
 ·rw[Bb h];have:((48:UInt8).toNat:Int)=48:=rfl;omega
 ·rw[Ba sX];have:((49:UInt8).toNat:Int)=49:=rfl;omega
theorem Qar (v k:Nat):(48+bits .and .i64 ((v:Int) / 2^k) 1)%256=(((F9 (v / 2^k)).toNat:Nat):Int):=by
 rw[SF,Qaq];have e:(((v / 2^k:Nat)):Int)=(v:Int) / 2^k:=sZ;rw[e];omega
theorem dM (v:Nat):∀(n j:Nat),j<n->(AF v n).take (j+1)=(AF v n).take j++[F9 (v / 2^(n-1-j))]
 |0,j,h=>sX
 |n+1,0,_=>by simp[AF]
 |n+1,j+1,h=>by
  have a:=dM v n j sX;rw[AF,Dq,Dq,a,show n+1-1-(j+1)=n-1-j by omega]
  rfl
set_option maxRecDepth 100000 in
theorem oM (v n:Int)(r:Value)(l:List UInt8)(B:Nat)(w:World)(h1:0<=v)(h2:v<=9223372036854775807)(h3:0<=n)(h4:n<=32)
  (f:DT w B 5 r l)(hl:l.length<=1073741824)(z:B<=w.heap.size):
  Calls prog 142 #[r,.int .i64 v,.int .i64 n] w fun e t=>∃g,e=.returned g/\DT t B 5 g (l++AF v.toNat n.toNat)/\Below B w t:=by
 obtain⟨A,hi,i,k,m⟩:=Ds Wp;obtain⟨v,rfl⟩:=Dr h1;obtain⟨n,rfl⟩:=Dr h3;simp only[Dp];clear h1 h3
 go_enter func142,ntmps142
 go_wp2
 go_loopw [0,7] (fun s p wr=>∃j:Nat,j<=n/\p=.int .i64 ((n:Int)-1-j)/\DT wr B 5 s (l++(AF v n).take j)/\Below B w wr) (fun _ p _=>(intOf p+1).toNat)
 case atStart=>exact⟨0,Do _,sZ,by simpa using f,Dn _ _⟩
 case round=>
  obtain⟨j,hj,rfl,a,o⟩:=hrel;have u:=o.size;by_cases q:j<n
  ·have x:0<=(n:Int)-1-j:=sX;have y:(l++(AF v n).take j).length<=1073741824+32:=by rw[B8,Be,BS];omega
   have h:=dM v n j q;have T:=Dm h;clear h
   go_wp2_with (at_builtin;refine Yu8 (b:=F9 (v / 2^(n-1-j))) rfl rfl Dt hi i k m rfl (a.alloc _) rfl ?c1 ?c2 ?c3 ?_;(case c1=>(rw[Qar];go_cell));(case c2=>omega);(case c3=>(simp;omega));intro C D c d)
   rw[Bg,<-T.out] at c
   go_roundw
   case rel=>exact⟨j+1,sX,tP,c,(o.alloc sX _).grown d tO (fB a)⟩
   case measure=>simp[intOf];omega
  ·obtain rfl:j=n:=sX;have x:¬ 0<=(j:Int)-1-j:=sX
   go_wp2
   go_ret
   exact⟨_,rfl,by rwa [Bh (by rw[BS];exact B9 _)] at a,o⟩
theorem dR {v n:Int}(h:EW v n=true):0<=n/\n<=32/\0<=v/\v<2^n.toNat:=by
 unfold EW at h
 simpa using h
theorem mQ (v n:Int)(a:0<=v)(h1:v<2^n.toNat):v / 2^n.toNat=0:=Int.ediv_eq_zero_of_lt a h1
theorem Qr (v n:Int)(w:World)(h2:v<=9223372036854775807)(c:EW v n=true):
  Calls prog 107 #[.int .i64 v,.int .i64 n] w fun e i=>e=.returned (.tuple #[.string ⟨(AF v.toNat n.toNat).toArray⟩,.int .i64 0])/\Below w.heap.size w i:=by
 obtain⟨d,f,b,g⟩:=dR c;have h:=mQ v n b g;have t1:(v / 2^n.toNat != 0)=false:=by rw[h];rfl
 have t2:decide (n<0)=false:=tS;have t3:decide (32<n)=false:=by simpa using f
 have t4:decide (v<0)=false:=by simpa using b
 clear h c g
 go_enter func107,ntmps107
 go_wp2_with fail
 refine(oM _ _ _ [] w.heap.size _ b h2 d f (DT.nil _ _ _) sZ sZ).mono ?_;rintro e k ⟨l,rfl,a,j⟩;rw[Cb] at a;have ht:=DT.text Dt Dx Du a
 go_wp2
 go_ret2
 exact⟨rfl,j⟩
end Go.Proofs.YtjjmalchelniiaaGreatDoor