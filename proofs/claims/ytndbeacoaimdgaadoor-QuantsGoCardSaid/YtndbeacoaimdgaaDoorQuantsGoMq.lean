/- No condition. -/
import Derived.Test.YtndbeacoaimdgaaDoorQuantsGoMg
import Derived.Test.YtndbeacoaimdgaaDoorQuantsGoMp
import Derived.Deep.RegionLaw
import Derived.Laws.CopyOwn
import Derived.WalkMore
namespace Go.Proofs.YtndbeacoaimdgaaDoor
open Go.RowKit
set_option maxHeartbeats 1000000 in
theorem Ya2 (w:World)(B b:Nat)(r:List UInt8)(v n:Int)(hw:Ybw w B b r)(h2:v≤9223372036854775807)(hf:Ya7 v n=true)(hn:r.length+32≤1099511627776)(hB:B≤w.heap.size):
  Calls Tryd.prog 52 #[.pointer (some ⟨b,0,none⟩),.int .i64 v,.int .i64 n] w fun e w'=>e=.returned (.int .i64 0)∧Ybw w' B b (r++Yal v.toNat n.toNat)∧w.grownBy w' (some b):=by
 have hrow:Yau (Yal v.toNat n.toNat)=true:=Ye1 _ _;have hlen:(Yal v.toNat n.toNat).length≤32:=by rw[Yai];have:=(Yfk hf).2.1;omega
 have HR:=Lib.hid hrow;have HF:=Lib.hid hf;clear hrow hf
 go_enter Tryd.func52,Tryd.ntmps52
 go_wp2_with fail
 refine(Yeb v n _ h2 HF.out).mono ?_;rintro e w1 ⟨rfl,hb⟩;have hw1:=hw.below hb;have hg1:w.grownBy w1 (some b):=⟨hb.os,hb.tape,hb.output,hb.size,fun k hk _=>hb.block k hk⟩;have hsz:=hb.size;clear hb
 go_wp2_with fail
 refine(Yio _ B b r _ hw1 HR.out (by rw[Yo8];omega) (by omega)).mono ?_;rintro e w2 ⟨rfl,hw2,hg2⟩
 go_wp2
 go_ret
 exact⟨rfl,hw2,Yae hg1 hg2⟩
theorem Ypw:∀n:Fin 32,bits .or .i64 32 ((n.val:Nat):Int)=((32+n.val:Nat):Int):=by decide +kernel
theorem Yll (n:Nat)(h:n<32):Ya7 ((32+n:Nat):Int) 22=true:=by
 unfold Ya7;rw[decide_eq_true_iff];refine⟨by omega,by omega,by omega,?_⟩;show ((32+n:Nat):Int)<2^22;omega
set_option maxHeartbeats 1000000 in
theorem Ylo (w:World)(B b:Nat)(r:List UInt8)(n:Nat)(h:n<32)(hw:Ybw w B b r)(hn:r.length+40≤1099511627776)(hB:B≤w.heap.size):
  Calls Tryd.prog 51 #[.pointer (some ⟨b,0,none⟩),.int .i64 (n:Int)] w fun e w'=>e=.returned (.int .i64 0)∧Ybw w' B b (r++List.replicate (gap r.length) 48++Yes n)∧w.grownBy w' (some b):=by
 have O:Hid (bits .or .i64 32 (n:Int)=((32+n:Nat):Int)):=Lib.hid (Ypw ⟨n,h⟩);have hf:=Yll n h;have F:=Lib.hid hf;have G:=Lib.hid (Yn7 r.length);have d1:decide ((n:Int)<0)=false:=by simp
 have d2:decide (31<(n:Int))=false:=by simp;omega
 have V:Hid (((32+n:Nat):Int)≤9223372036854775807):=Lib.hid (by omega);clear hf h
 go_enter Tryd.func51,Tryd.ntmps51
 go_wp2_with fail
 refine(Ylc _ B b r hw (by omega) hB).mono ?_;rintro e w1 ⟨rfl,hw1,hg1⟩;have hB1:B≤w1.heap.size:=Nat.le_trans hB hg1.size
 go_wp2_with fail
 rw[O.out];refine(Ya2 _ B b _ _ _ hw1 V.out F.out (by have:=G.out;rw[List.length_append,List.length_replicate];omega) hB1).mono ?_;rintro e w2 ⟨rfl,hw2,hg2⟩;rw[Yju] at hw2
 go_wp2
 go_ret
 exact⟨rfl,hw2,Yae hg1 hg2⟩
end Go.Proofs.YtndbeacoaimdgaaDoor