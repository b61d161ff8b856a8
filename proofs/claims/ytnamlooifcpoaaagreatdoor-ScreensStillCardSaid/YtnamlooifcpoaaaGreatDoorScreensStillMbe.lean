/- No condition. -/
import Derived.Test.YtnamlooifcpoaaaGreatDoorScreensStillMk
import Derived.Test.YtnamlooifcpoaaaGreatDoorScreensStillMbd
import Derived.Deep.RegionLaw
import Derived.Laws.CopyOwn
import Derived.WalkMore
namespace Go.Proofs.YtnamlooifcpoaaaGreatDoor
open Go.RowKit
set_option maxHeartbeats 1000000 in
theorem Yb7 (w:World)(B b:Nat)(r:List UInt8)(v n:Int)(hw:Ydd w B b r)(h2:v≤9223372036854775807)(hf:Yce v n=true)(hn:r.length+32≤1099511627776)(hB:B≤w.heap.size):
  Calls Tryz.prog 116 #[.pointer (some ⟨b,0,none⟩),.int .i64 v,.int .i64 n] w fun e w'=>e=.returned (.int .i64 0)∧Ydd w' B b (r++Yav v.toNat n.toNat)∧w.grownBy w' (some b):=by
 have hrow:Ybs (Yav v.toNat n.toNat)=true:=Yhx _ _;have hlen:(Yav v.toNat n.toNat).length≤32:=by rw[Yap];have:=(Yi2 hf).2.1;omega
 have HR:=Lib.hid hrow;have HF:=Lib.hid hf;clear hrow hf
 go_enter Tryz.func116,Tryz.ntmps116
 go_wp2_with fail
 refine(Yg2 v n _ h2 HF.out).mono ?_;rintro e w1 ⟨rfl,hb⟩;have hw1:=hw.below hb;have hg1:w.grownBy w1 (some b):=⟨hb.os,hb.tape,hb.output,hb.size,fun k hk _=>hb.block k hk⟩;have hsz:=hb.size;clear hb
 go_wp2_with fail
 refine(Yoe _ B b r _ hw1 HR.out (by rw[Yzm];omega) (by omega)).mono ?_;rintro e w2 ⟨rfl,hw2,hg2⟩
 go_wp2
 go_ret
 exact⟨rfl,hw2,Yag hg1 hg2⟩
theorem Y0n:∀n:Fin 32,bits .or .i64 32 ((n.val:Nat):Int)=((32+n.val:Nat):Int):=by decide +kernel
theorem Yta (n:Nat)(h:n<32):Yce ((32+n:Nat):Int) 22=true:=by
 unfold Yce;rw[decide_eq_true_iff];refine⟨by omega,by omega,by omega,?_⟩;show ((32+n:Nat):Int)<2^22;omega
set_option maxHeartbeats 1000000 in
theorem Yte (w:World)(B b:Nat)(r:List UInt8)(n:Nat)(h:n<32)(hw:Ydd w B b r)(hn:r.length+40≤1099511627776)(hB:B≤w.heap.size):
  Calls Tryz.prog 115 #[.pointer (some ⟨b,0,none⟩),.int .i64 (n:Int)] w fun e w'=>e=.returned (.int .i64 0)∧Ydd w' B b (r++List.replicate (gap r.length) 48++Yhk n)∧w.grownBy w' (some b):=by
 have O:Hid (bits .or .i64 32 (n:Int)=((32+n:Nat):Int)):=Lib.hid (Y0n ⟨n,h⟩);have hf:=Yta n h;have F:=Lib.hid hf;have G:=Lib.hid (Yx0 r.length);have d1:decide ((n:Int)<0)=false:=by simp
 have d2:decide (31<(n:Int))=false:=by simp;omega
 have V:Hid (((32+n:Nat):Int)≤9223372036854775807):=Lib.hid (by omega);clear hf h
 go_enter Tryz.func115,Tryz.ntmps115
 go_wp2_with fail
 refine(Ysq _ B b r hw (by omega) hB).mono ?_;rintro e w1 ⟨rfl,hw1,hg1⟩;have hB1:B≤w1.heap.size:=Nat.le_trans hB hg1.size
 go_wp2_with fail
 rw[O.out];refine(Yb7 _ B b _ _ _ hw1 V.out F.out (by have:=G.out;rw[List.length_append,List.length_replicate];omega) hB1).mono ?_;rintro e w2 ⟨rfl,hw2,hg2⟩;rw[Yp9] at hw2
 go_wp2
 go_ret
 exact⟨rfl,hw2,Yag hg1 hg2⟩
end Go.Proofs.YtnamlooifcpoaaaGreatDoor