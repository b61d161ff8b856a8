/- Texts that SheetoutPuts's proof stands on, part 27 of 47. No condition of its own. -/
import Derived.Test.YtgikochfffdpfaaGreatDoorSheetoutPutsMx
import Derived.Laws.OwnMore
import Derived.Deep.AppendLies
import Derived.WalkMore
import Derived.IntWalk
namespace Go.Proofs.YtgikochfffdpfaaGreatDoor
open Go.RowKit Go.Lib
def Yf7 (l:List UInt8):List (List UInt8)×List UInt8:=l.foldl (fun p c=> if c=32 then (p.1 ++ [p.2],[]) else (p.1,p.2 ++ [c])) ([],[])
def Yn0 (l:List UInt8):List (List UInt8):=(Yf7 l).1 ++ [(Yf7 l).2]
theorem Ypl (l:List UInt8) (c:UInt8):Yf7 (l ++ [c])=if c=32 then ((Yf7 l).1 ++ [(Yf7 l).2],[]) else ((Yf7 l).1,(Yf7 l).2 ++ [c]):=by
 unfold Yf7
 rw [List.foldl_append]
 rfl
def Yqh (l:List ByteArray):List (List UInt8):=l.map fun x=> x.data.toList
def Yqy (s:ByteArray) (w:World) (e:Ending) (w':World):Prop:=
 ∃(l:List ByteArray) (q:Option Addr) (cap:Nat),e = .returned (.slice q l.length cap)∧Yqh l=Yn0 s.data.toList∧Ysx w' q l∧l.length≤201∧(∀a,q=some a→w.heap.size≤a.block)∧Below w.heap.size w w'
set_option maxRecDepth 100000 in
set_option maxHeartbeats 2000000 in
theorem Ylh (s:ByteArray) (hs:s.size≤200) (w:World):Calls Tryz.prog 167 #[.string s] w (Yqy s w):=by
 obtain ⟨i0,hi,jz0,jz1,jz2⟩:=info_parts Yp4
 obtain ⟨B,hB⟩:∃B,w.heap.size=B:=⟨_,rfl⟩
 have HB:=Lib.hid hB
 have hb0:Below B w (w.alloc (.cells #[.string ⟨#[]⟩] 9 (0,0))):=by rw [←hB];exact (Below.refl _ w).alloc (Nat.le_refl _) _
 have hu0:(w.alloc (.cells #[.string ⟨#[]⟩] 9 (0,0))).ownsRow B 9 1 (.slice (some ⟨B,0,none⟩) 1 1) 1 (Ybd ([] ++ [⟨#[]⟩])):=hB▸World.ownsRow_lit w #[.string ⟨#[]⟩] 1 (by omega) (by unfold maxLen;omega) rfl
 have hz0:B≤(w.alloc (.cells #[.string ⟨#[]⟩] 9 (0,0))).heap.size:=by simp;omega
 go_enter Tryz.func167,Tryz.ntmps167
 go_wp2
 go_loopw [3,4] (fun u v wr=>∃(i:Nat) (l:List ByteArray) (y:ByteArray),i≤s.size∧v = .int .i64 i∧wr.ownsRow B 9 1 u (l.length+1) (Ybd (l ++ [y]))∧y.size≤i∧l.length≤i∧Hid (Yf7 (s.data.toList.take i)=(Yqh l,y.data.toList))∧Below B w wr∧B≤wr.heap.size) (fun _ v _=> s.size-(intOf v).toNat)
 case atStart=> exact ⟨0,[],⟨#[]⟩,Nat.zero_le _,rfl,hu0,Nat.zero_le _,Nat.zero_le _,Lib.hid rfl,hb0,hz0⟩
 case round=>
  clear hu0 hb0 hz0
  obtain ⟨i,l,y,hi2,rfl,hu,hy,hl,hsp,hb,hz⟩:=hrel
  by_cases hlt:i<s.size
  ·obtain ⟨g,cap,rfl,hBg,hglt⟩:=hu.form (by omega)
   have hmore:Yf7 (s.data.toList.take (i+1))=if s[i]=32 then (Yqh l ++ [y.data.toList],[]) else (Yqh l,y.data.toList ++ [s[i]]):=by
    rw [List.take_succ_eq_append_getElem hlt,Ypl,hsp.out]
    rfl
   have hcut:s.extract i (i+1)=⟨#[s[i]]⟩:=by
    apply Yln.2
    rw [Lib.extract_data]
    have h2:i<s.data.toList.length:=hlt
    rw [Nat.add_sub_cancel_left,List.drop_eq_getElem_cons h2]
    rfl
   by_cases hc:s[i]=32
   ·rw [if_pos hc] at hmore
    have M:=Lib.hid hmore
    have g0:((s[i].toNat:Int)==32)=true:=by rw [hc];rfl
    clear hmore hsp hc hcut
    go_wp2_with (at_builtin;refine Yho (y0:=⟨#[]⟩) rfl rfl Tryz.underlying125 hi jz0 rfl jz1 jz2 rfl (hu.alloc _) rfl ?d1 ?d2 ?d3 ?_;(case d1=> go_cell);(case d2=> omega);(case d3=> (simp;omega));intro v2 w2 hu4 hgrow;have hg4:World.grownBy _ w2 (some g):=hgrow;have hb4:=(hb.alloc hz _).grown hg4 (by simp;omega) (fun k hk=> by injection hk with hk;omega);have hz4:B≤w2.heap.size:=Nat.le_trans (by simp;omega) hg4.size;clear hgrow)
    go_roundw
    case rel=> exact ⟨i+1,l ++ [y],⟨#[]⟩,by omega,by go_num,by rw [Yet,List.length_append];exact hu4,Nat.zero_le _,by rw [List.length_append];simp;omega,Lib.hid (by rw [M.out];simp [Yqh]),hb4,hz4⟩
    case measure=> simp [intOf];omega
   ·rw [if_neg hc] at hmore
    have M:=Lib.hid hmore
    have g0:((s[i].toNat:Int)==32)=false:=by
     rw [beq_eq_false_iff_ne]
     intro e
     exact hc (UInt8.toNat_inj.1 (by show s[i].toNat=32;omega))
    have c0:wr.cell? ⟨g,l.length,none⟩=some (.string y):=by
     rw [hu.cellAt l.length (by omega),Yet,List.getElem?_append_right (by simp [Ybd])]
     simp [Ybd]
    have f0:=hu.frozenAt l.length
    have ST:=Lib.hid (fun u=> hu.stored l.length u)
    have HC:=Lib.hid hcut
    have s1:=Lib.hid (show (i:Int)≤(i:Int)+1 by omega)
    have SL:=Lib.hid (show (Ybd (l ++ [y])).set l.length (.string (y++⟨#[s[i]]⟩))=Ybd (l ++ [y++⟨#[s[i]]⟩]) by simp [Ybd])
    obtain ⟨n,hn⟩:∃n,l.length=n:=⟨_,rfl⟩
    rw [hn] at c0 f0 ST SL hl
    rw [hn]
    have HN:=Lib.hid hn
    have sw1:IntKind.i64.wrap (n:Int)=(n:Int):=IntWalk.i64_in _ (by omega)
    have sw2:IntKind.i64.wrap ((i:Int)+1)=(i:Int)+1:=IntWalk.i64_in _ (by omega)
    clear hmore hsp hc hcut hu hn
    go_wp2
    go_region
    go_wp2
    go_roundw
    case rel=>
     rw [HC.out]
     obtain ⟨h1,h2⟩:=ST.out (.string (y++⟨#[s[i]]⟩))
     rw [SL.out] at h1
     exact ⟨i+1,l,y++⟨#[s[i]]⟩,by omega,by go_num,by rw [HN.out];exact h1.drew,by have e1:(⟨#[s[i]]⟩:ByteArray).size=1:=rfl;rw [ByteArray.size_append];omega,by rw [HN.out];omega,Lib.hid (by rw [M.out];simp),(hb.setCell hBg _).drew,Nat.le_trans hz h2.size⟩
    case measure=> simp [intOf];omega
  ·obtain rfl:i=s.size:=by omega
   have F:=Lib.hid (show Yqh (l ++ [y])=Yn0 s.data.toList by
    have:=hsp.out
    rw [show s.data.toList.take s.size=s.data.toList from List.take_of_length_le (Nat.le_refl _)] at this
    unfold Yn0
    rw [this]
    simp [Yqh])
   have hu':wr.ownsRow B 9 1 u3 (l ++ [y]).length (Ybd (l ++ [y])):=by rw [List.length_append];exact hu
   obtain ⟨q,cap,rfl,hst⟩:=Yul hu'
   have HF:=Lib.hid (show∀a,q=some a→w.heap.size≤a.block from fun a h=> by subst h;rw [HB.out];exact Ykz hu' a.block rfl)
   have HLN:=Lib.hid (show (l ++ [y]).length≤201 by rw [List.length_append];simp;omega)
   clear hu hu' hsp
   go_wp2
   go_ret
   exact ⟨l ++ [y],q,cap,rfl,F.out,hst,HLN.out,HF.out,by rw [HB.out];exact hb⟩
end Go.Proofs.YtgikochfffdpfaaGreatDoor