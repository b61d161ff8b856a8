/- StripsWrites, 4. No condition. -/
import Derived.Test.YtjjmalchelniiaaGreatDoorStripsWritesMb
import Derived.Test.YtjjmalchelniiaaGreatDoorStripsWritesMc
import Derived.Test.YtjjmalchelniiaaGreatDoorRows
import Derived.WalkKit
import Derived.WalkSpells
import Derived.ProofKit
import Derived.Lib.Hide
open Go.Proofs.Tryz
set_option maxHeartbeats 1000000
namespace Go.Proofs.YtjjmalchelniiaaGreatDoor
open Go.RowKit
abbrev Dp:=@Lib.hid
abbrev Dq:=@Below.refl
abbrev Dr:=@Int.toNat_natCast
abbrev Ds:=@Nat.zero_le
abbrev Dt:=@List.take_succ_cons
abbrev Du:=@Int.eq_ofNat_of_zero_le
abbrev Dv:=@info_parts
abbrev Dw:=@underlying95
abbrev Dx:=@underlying9
abbrev Dy:=@underlying5
abbrev Dz:=@Nat.div_div_eq_div_mul
abbrev E9:=@List.all_append
theorem qJ (m j x:Nat)(h:m / 2^j=x):m / 2^(j+1)=x / 2:=by rw[Co,<-Dz,h]
def F4 (v n:Int):Bool:=decide (0<=n/\n<=32/\0<=v/\v<2^n.toNat)
theorem KK (vi a:Int)(h1:0<=vi)(h2:vi<=9223372036854775807)(h3:0<=a)(h4:a<=32)(w:World):
  Calls prog 62 #[.int .i64 vi,.int .i64 a] w fun e c=>e=.returned (.string ⟨(AB vi.toNat a.toNat).toArray⟩)/\w=c:=by
 obtain⟨v,rfl⟩:=Du h1;obtain⟨n,rfl⟩:=Du h3;simp only[Dr];have f:v<=9223372036854775807:=by omega
 have g:n<=32:=by omega
 clear h1 h2 h3 h4
 go_enter func62,ntmps62
 go_wp2
 go_loop [0,5,6] (fun x s i=>∃j y:Nat,j<=n/\i=.int .i64 j/\x=.int .i64 y/\s=.string ⟨(AB v j).toArray⟩/\v / 2^j=y) (fun _ _ i=>n-(intOf i).toNat)
 case atStart=>exact⟨0,v,Ds _,rfl,rfl,rfl,by simp⟩
 case round=>
  obtain⟨j,y,hj,rfl,rfl,rfl,b⟩:=hrel;have h:y<=v:=by rw[<-b];exact Nat.div_le_self _ _
  have Y:=Dp b;clear b;have hl:(AB v j).length<=32:=by rw[BB];omega
  by_cases d:j<n
  ·go_wp2
   go_round
   case rel=>exact⟨j+1,y / 2,by omega,by go_num,by go_num,by rw[fY _ _ _ Y.out],qJ _ _ _ Y.out⟩
   case measure=>simp[intOf];omega
  ·obtain rfl:j=n:=by omega
   go_wp2
   go_ret
   exact⟨rfl,rfl⟩
theorem rD (p:UInt8->Bool)(l:List UInt8)(j:Nat)(h:j<l.length):(l.take (j+1)).all p=((l.take j).all p&&p l[j]):=by
 rw[Be h,E9];simp
theorem pO {a b:List UInt8}(h:a=b):Ending.returned (.string ⟨a.toArray⟩)=.returned (.string ⟨b.toArray⟩):=by rw[h]
theorem X7 {w:World}{base e:Nat}{v:Value}{l:List UInt8}(h:DU w base e v l):∀k,v.ownBlock=some k->base<=k:=by
 intro k a;rcases h.2 with ⟨rfl,_⟩|⟨g,cap,b,rfl,c,_⟩
 ·cases a
 ·cases a;exact c
theorem Uo:(prog.info? 5).map (fun i=>(i.zero,i.size,i.bytes))=some (some (.int .u8 0),1,1):=by kernel_rfl
theorem rX (s:ByteArray)(hs:s.size<=32)(hr:AL s.data.toList=true)(w:World):
  Calls prog 63 #[.string s] w fun e f=>e=.returned (.int .i64 (num s.data.toList))/\w=f:=by
 have a:∀j,j<=s.size->num (s.data.toList.take j)<=4294967296:=fun j hj=>by
  have h1:=M2 s.data.toList hr j hj;have h2:2^j<=2^32:=Br (by omega) (by omega:j<=32);omega
 have R:=Dp hr;have g:=Dp a;clear hr a
 go_enter func63,ntmps63
 go_wp2
 go_loop [3,4] (fun n i=>∃j y:Nat,j<=s.size/\i=.int .i64 j/\n=.int .i64 y/\num (s.data.toList.take j)=y) (fun _ i=>s.size-(intOf i).toNat)
 case atStart=>exact⟨0,0,Ds _,rfl,rfl,rfl⟩
 case round=>
  obtain⟨j,y,hj,rfl,rfl,d⟩:=hrel;have h:=g.out j hj;rw[d] at h;have Y:=Dp d;clear d;by_cases c:j<s.size
  ·have hc:=PM s.data.toList j c R.out;have k:48<=(s[j].toNat:Int):=by have:s.data.toList[j]=s[j]:=rfl;rw[this] at hc;omega
   have l:(s[j].toNat:Int)<=49:=by have:s.data.toList[j]=s[j]:=rfl;rw[this] at hc;omega
   have b:num (s.data.toList.take (j+1))=2*num (s.data.toList.take j)+(s[j].toNat-48):=YQ s.data.toList j c;rw[Y.out] at b;have S:=Dp b;clear b hc
   go_wp2
   go_round
   case rel=>exact⟨j+1,2*y+(s[j].toNat-48),by omega,by go_num,by go_num,S.out⟩
   case measure=>simp[intOf];omega
  ·obtain rfl:j=s.size:=by omega
   go_wp2
   go_ret
   exact⟨FT (by rw[<-Y.out,Bk (by exact Ba _)]),rfl⟩
theorem oP (s:ByteArray)(hs:s.size=8)(hr:AL s.data.toList=true)(w:World):
  Calls prog 63 #[.string s] w fun e a=>∃y:Nat,e=.returned (.int .i64 (y:Int))/\w=a/\(y:Int)<=255/\Hid (num s.data.toList=y):=by
 refine(rX s (by omega) hr w).mono ?_;rintro e a ⟨rfl,rfl⟩;refine⟨_,rfl,rfl,?_,Dp rfl⟩;have:=M2 s.data.toList hr 8 (by rw[<-hs];exact Ba _);rw[Bk (by rw[<-hs];exact Ba _)] at this;omega
def VI:Value->Nat|.string s=>s.size|_=>0
theorem QZ (x:Int):bits .and .i64 x 1=x%2:=LR x 1 (by omega)
theorem jG (y:Nat):(((F7 y).toNat:Nat):Int)=48+(y:Int)%2:=by
 have h:y%2=0\/y%2=1:=by omega
 unfold F7;rcases h with h|h
 ·rw[Bc h];have:((48:UInt8).toNat:Int)=48:=rfl;omega
 ·rw[Bb (by omega)];have:((49:UInt8).toNat:Int)=49:=rfl;omega
theorem cD (v k:Nat):(48+bits .and .i64 ((v:Int) / 2^k) 1)%256=(((F7 (v / 2^k)).toNat:Nat):Int):=by
 rw[QZ,jG];have e:(((v / 2^k:Nat)):Int)=(v:Int) / 2^k:=by simp
 rw[e];omega
theorem WA (v:Nat):∀(n j:Nat),j<n->(AB v n).take (j+1)=(AB v n).take j++[F7 (v / 2^(n-1-j))]
 |0,j,h=>by omega
 |n+1,0,_=>by simp[AB]
 |n+1,j+1,h=>by
  have a:=WA v n j (by omega);rw[AB,Dt,Dt,a,show n+1-1-(j+1)=n-1-j by omega]
  rfl
set_option maxRecDepth 100000 in
theorem Y26 (v n:Int)(r:Value)(l:List UInt8)(B:Nat)(w:World)(h1:0<=v)(h2:v<=9223372036854775807)(h3:0<=n)(h4:n<=32)
  (f:DU w B 5 r l)(hl:l.length<=1073741824)(z:B<=w.heap.size):
  Calls prog 142 #[r,.int .i64 v,.int .i64 n] w fun e t=>∃g,e=.returned g/\DU t B 5 g (l++AB v.toNat n.toNat)/\Below B w t:=by
 obtain⟨A,hi,i,k,m⟩:=Dv Uo;obtain⟨v,rfl⟩:=Du h1;obtain⟨n,rfl⟩:=Du h3;simp only[Dr];clear h1 h3
 go_enter func142,ntmps142
 go_wp2
 go_loopw [0,7] (fun s p wr=>∃j:Nat,j<=n/\p=.int .i64 ((n:Int)-1-j)/\DU wr B 5 s (l++(AB v n).take j)/\Below B w wr) (fun _ p _=>(intOf p+1).toNat)
 case atStart=>exact⟨0,Ds _,by simp,by simpa using f,Dq _ _⟩
 case round=>
  obtain⟨j,hj,rfl,a,o⟩:=hrel;have u:=o.size;by_cases q:j<n
  ·have x:0<=(n:Int)-1-j:=by omega
   have y:(l++(AB v n).take j).length<=1073741824+32:=by rw[B9,Bf,BB];omega
   have h:=WA v n j q;have T:=Dp h;clear h
   go_wp2_with (at_builtin;refine Yb (b:=F7 (v / 2^(n-1-j))) rfl rfl Dw hi i k m rfl (a.alloc _) rfl ?c1 ?c2 ?c3 ?_;(case c1=>(rw[cD];go_cell));(case c2=>omega);(case c3=>(simp;omega));intro C D c d)
   rw[Bd,<-T.out] at c
   go_roundw
   case rel=>exact⟨j+1,by omega,by go_num,c,(o.alloc (by omega) _).grown d (by simp;omega) (X7 a)⟩
   case measure=>simp[intOf];omega
  ·obtain rfl:j=n:=by omega
   have x:¬ 0<=(j:Int)-1-j:=by omega
   go_wp2
   go_ret
   exact⟨_,rfl,by rwa [Bk (by rw[BB];exact Ba _)] at a,o⟩
theorem YW {v n:Int}(h:F4 v n=true):0<=n/\n<=32/\0<=v/\v<2^n.toNat:=by
 unfold F4 at h
 simpa using h
theorem tK (v n:Int)(a:0<=v)(h1:v<2^n.toNat):v / 2^n.toNat=0:=Int.ediv_eq_zero_of_lt a h1
theorem Qx (v n:Int)(w:World)(h2:v<=9223372036854775807)(c:F4 v n=true):
  Calls prog 107 #[.int .i64 v,.int .i64 n] w fun e i=>e=.returned (.tuple #[.string ⟨(AB v.toNat n.toNat).toArray⟩,.int .i64 0])/\Below w.heap.size w i:=by
 obtain⟨d,f,b,g⟩:=YW c;have h:=tK v n b g;have t1:(v / 2^n.toNat != 0)=false:=by rw[h];rfl
 have t2:decide (n<0)=false:=by simpa using d
 have t3:decide (32<n)=false:=by simpa using f
 have t4:decide (v<0)=false:=by simpa using b
 clear h c g
 go_enter func107,ntmps107
 go_wp2_with fail
 refine(Y26 _ _ _ [] w.heap.size _ b h2 d f (DU.nil _ _ _) (by simp) (by simp)).mono ?_;rintro e k ⟨l,rfl,a,j⟩;rw[Cc] at a;have ht:=DU.text Dw Dy Dx a
 go_wp2
 go_ret2
 exact⟨rfl,j⟩
end Go.Proofs.YtjjmalchelniiaaGreatDoor