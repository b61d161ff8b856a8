/- StripsChecks, 4. No condition. -/
import Derived.Test.YtjjmalchelniiaaGreatDoorStripsChecksMb
import Derived.Test.YtjjmalchelniiaaGreatDoorStripsChecksMc
import Derived.Test.YtjjmalchelniiaaGreatDoorRows
import Derived.WalkKit
import Derived.WalkSpells
import Derived.ProofKit
import Derived.Lib.Hide
open Go.Proofs.Tryz
set_option maxHeartbeats 1000000
namespace Go.Proofs.YtjjmalchelniiaaGreatDoor
open Go.RowKit
abbrev Dl:=@Lib.hid
abbrev Dm:=@Below.refl
abbrev Dn:=@Nat.zero_le
abbrev Do:=@Int.toNat_natCast
abbrev Dp:=@List.take_succ_cons
abbrev Dq:=@Int.eq_ofNat_of_zero_le
abbrev Dr:=@info_parts
abbrev Ds:=@underlying95
abbrev Dt:=@underlying9
abbrev Du:=@underlying5
abbrev Dv:=@List.all_append
def EG (v n:Int):Bool:=decide (0<=n/\n<=32/\0<=v/\v<2^n.toNat)
theorem dY (p:UInt8->Bool)(l:List UInt8)(j:Nat)(h:j<l.length):(l.take (j+1)).all p=((l.take j).all p&&p l[j]):=by
 rw[Bd h,Dv];simp
theorem oB {w:World}{base e:Nat}{v:Value}{l:List UInt8}(h:EU w base e v l):∀k,v.ownBlock=some k->base<=k:=by
 intro k a;rcases h.2 with ⟨rfl,_⟩|⟨g,cap,b,rfl,c,_⟩
 ·cases a
 ·cases a;exact c
theorem Vg:(prog.info? 5).map (fun i=>(i.zero,i.size,i.bytes))=some (some (.int .u8 0),1,1):=by kernel_rfl
theorem QI (x:Int):bits .and .i64 x 1=x%2:=KE x 1 (by omega)
theorem vB (y:Nat):(((FT y).toNat:Nat):Int)=48+(y:Int)%2:=by
 have h:y%2=0\/y%2=1:=by omega
 unfold FT;rcases h with h|h
 ·rw[Bc h];have:((48:UInt8).toNat:Int)=48:=rfl;omega
 ·rw[Bb (by omega)];have:((49:UInt8).toNat:Int)=49:=rfl;omega
theorem kJ (v k:Nat):(48+bits .and .i64 ((v:Int) / 2^k) 1)%256=(((FT (v / 2^k)).toNat:Nat):Int):=by
 rw[QI,vB];have e:(((v / 2^k:Nat)):Int)=(v:Int) / 2^k:=by simp
 rw[e];omega
theorem U6 (v:Nat):∀(n j:Nat),j<n->(AI v n).take (j+1)=(AI v n).take j++[FT (v / 2^(n-1-j))]
 |0,j,h=>by omega
 |n+1,0,_=>by simp[AI]
 |n+1,j+1,h=>by
  have a:=U6 v n j (by omega);rw[AI,Dp,Dp,a,show n+1-1-(j+1)=n-1-j by omega]
  rfl
set_option maxRecDepth 100000 in
theorem nL (v n:Int)(r:Value)(l:List UInt8)(B:Nat)(w:World)(h1:0<=v)(h2:v<=9223372036854775807)(h3:0<=n)(h4:n<=32)
  (f:EU w B 5 r l)(hl:l.length<=1073741824)(z:B<=w.heap.size):
  Calls prog 142 #[r,.int .i64 v,.int .i64 n] w fun e t=>∃g,e=.returned g/\EU t B 5 g (l++AI v.toNat n.toNat)/\Below B w t:=by
 obtain⟨A,hi,i,k,m⟩:=Dr Vg;obtain⟨v,rfl⟩:=Dq h1;obtain⟨n,rfl⟩:=Dq h3;simp only[Do];clear h1 h3
 go_enter func142,ntmps142
 go_wp2
 go_loopw [0,7] (fun s p wr=>∃j:Nat,j<=n/\p=.int .i64 ((n:Int)-1-j)/\EU wr B 5 s (l++(AI v n).take j)/\Below B w wr) (fun _ p _=>(intOf p+1).toNat)
 case atStart=>exact⟨0,Dn _,by simp,by simpa using f,Dm _ _⟩
 case round=>
  obtain⟨j,hj,rfl,a,o⟩:=hrel;have u:=o.size;by_cases q:j<n
  ·have x:0<=(n:Int)-1-j:=by omega
   have y:(l++(AI v n).take j).length<=1073741824+32:=by rw[B9,Be,BN];omega
   have h:=U6 v n j q;have T:=Dl h;clear h
   go_wp2_with (at_builtin;refine Z9 (b:=FT (v / 2^(n-1-j))) rfl rfl Ds hi i k m rfl (a.alloc _) rfl ?c1 ?c2 ?c3 ?_;(case c1=>(rw[kJ];go_cell));(case c2=>omega);(case c3=>(simp;omega));intro C D c d)
   rw[Bf,<-T.out] at c
   go_roundw
   case rel=>exact⟨j+1,by omega,by go_num,c,(o.alloc (by omega) _).grown d (by simp;omega) (oB a)⟩
   case measure=>simp[intOf];omega
  ·obtain rfl:j=n:=by omega
   have x:¬ 0<=(j:Int)-1-j:=by omega
   go_wp2
   go_ret
   exact⟨_,rfl,by rwa [Bh (by rw[BN];exact Ba _)] at a,o⟩
theorem Xl {v n:Int}(h:EG v n=true):0<=n/\n<=32/\0<=v/\v<2^n.toNat:=by
 unfold EG at h
 simpa using h
theorem nN (v n:Int)(a:0<=v)(h1:v<2^n.toNat):v / 2^n.toNat=0:=Int.ediv_eq_zero_of_lt a h1
theorem PB (v n:Int)(w:World)(h2:v<=9223372036854775807)(c:EG v n=true):
  Calls prog 107 #[.int .i64 v,.int .i64 n] w fun e i=>e=.returned (.tuple #[.string ⟨(AI v.toNat n.toNat).toArray⟩,.int .i64 0])/\Below w.heap.size w i:=by
 obtain⟨d,f,b,g⟩:=Xl c;have h:=nN v n b g;have t1:(v / 2^n.toNat != 0)=false:=by rw[h];rfl
 have t2:decide (n<0)=false:=by simpa using d
 have t3:decide (32<n)=false:=by simpa using f
 have t4:decide (v<0)=false:=by simpa using b
 clear h c g
 go_enter func107,ntmps107
 go_wp2_with fail
 refine(nL _ _ _ [] w.heap.size _ b h2 d f (EU.nil _ _ _) (by simp) (by simp)).mono ?_;rintro e k ⟨l,rfl,a,j⟩;rw[Ce] at a;have ht:=EU.text Ds Du Dt a
 go_wp2
 go_ret2
 exact⟨rfl,j⟩
end Go.Proofs.YtjjmalchelniiaaGreatDoor