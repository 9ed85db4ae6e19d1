import Derived.Test.YtjakooihcbdcaaaDoorMVah
import Derived.Lib.ItoaLen
import Derived.Lib.ItoaMem
import Derived.Laws.IdiomStrings
import Derived.Laws.Strings3
import Derived.Lib.Strings
import Derived.Laws.OwnMore
import Derived.Lib.UnsafeStr
set_option maxRecDepth 100000
set_option maxHeartbeats 4000000
namespace Go.Proofs.YtjakooihcbdcaaaDoor
open Go.ChangeShapes Go.WideShapes Go.ChangeAt Go.RowKit
set_option linter.unusedVariables false
set_option maxRecDepth 100000
def itx (n : Int) : ByteArray:=⟨(Lib.itoa n).toArray⟩
theorem dgt_nat (r : Nat) (h : r < 10) : (UInt8.ofNat (48 + r)).toNat = 48 + r:=by
  rw [UInt8.toNat_ofNat',Nat.mod_eq_of_lt (by omega)]
theorem cv1 (W : World) (B : Nat) (c : UInt8) (h : W.cell? ⟨B,0,none⟩ = some (.int .u8 (c.toNat : Int))) : (convert 37 9 (.slice (some ⟨B,0,none⟩) 1 1)).run Tryd.prog W = .ok (.string ⟨[c].toArray⟩) W:=by
  have:=run_convert_bytes_back (P:=Tryd.prog) W 37 9 5 ⟨B,0,none⟩ 1 [c] Tryd.underlying37 Tryd.underlying5 Tryd.underlying9 (fun j hj=>by
    have e : j = 0:=by simp at hj;omega
    subst e
    rw [Lib.add_plain]
    exact h)
  exact this
theorem dec_len (N : Nat) (hN : (N : Int) ≤ 9223372036854775807) : (Lib.decDigits N).length ≤ 21:=by
  have:=Lib.itoa_length_le (N : Int) (by omega) hN
  unfold Lib.itoa at this
  rw [if_neg (by omega),Int.toNat_natCast] at this
  exact this
theorem itx_len (n : Int) (h0 : -9223372036854775808 ≤ n) (h1 : n ≤ 9223372036854775807) : (itx n).size ≤ 21:=by
  have:=Lib.itoa_length_le n h0 h1
  show ((Lib.itoa n).toArray).size ≤ 21
  simpa using this
theorem sp_decp (N : Nat) (hN : (N : Int) ≤ 9223372036854775807) (w : World) : Calls Tryd.prog 11 #[.int .i64 (N : Int)] w fun e w'=>e = .returned (.string ⟨(Lib.decDigits N).toArray⟩) ∧ Grown w w':=by
  have h1 : ¬ (N : Int) = -9223372036854775808:=by omega
  have h2 : ¬ (N : Int) < 0:=by omega
  have HL : Hid ((Lib.decDigits N).length ≤ 21):=dec_len N hN
  go_enter Tryd.func11,Tryd.ntmps11
  go_wp2_with fail
  clear h1 h2
  go_loopw [0,3] (fun s0 s3 wr=>∃ (u : Nat) (acc : List UInt8),s0 = .int .i64 (u : Int) ∧ s3 = .string ⟨acc.toArray⟩ ∧ (u : Int) ≤ 9223372036854775807 ∧ Hid (Grown w wr ∧ Lib.decDigits N = Lib.decDigits u ++ acc)) (fun s0 _ _=>(intOf s0).toNat)
  case atStart=>exact ⟨N,[],rfl,rfl,hN,(⟨Grown.refl _,by simp⟩ : _ ∧ _)⟩
  case round =>
    obtain ⟨u,acc,rfl,rfl,hu,HI⟩:=hrel
    obtain ⟨gw,hd⟩:=(show Grown w wr ∧ Lib.decDigits N = Lib.decDigits u ++ acc from HI)
    clear HI hN
    have hl : ¬ 9223372036854775807 < 1 + acc.length:=by
      have h3:=(show (Lib.decDigits N).length ≤ 21 from HL)
      rw [hd,List.length_append] at h3
      omega
    obtain ⟨c,hc⟩ : ∃ c : UInt8,c = UInt8.ofNat (48 + u % 10):=⟨_,rfl⟩
    have hcn : ((c.toNat : Nat) : Int) = 48 + (u : Int) % 10:=by rw [hc,dgt_nat _ (by omega)];omega
    have hcv:=cv1 (wr.alloc (.cells #[.int .u8 (48 + (u : Int) % 10)] 5)) wr.heap.size c (by rw [World.cell?_alloc_at _ _ _ _ rfl,hcn];rfl)
    have hap : (⟨[c].toArray⟩ : ByteArray) ++ ⟨acc.toArray⟩ = ⟨(c :: acc).toArray⟩:=by
      apply ByteArray.ext
      simp
    have hdc : Lib.decDigits u = if u < 10 then [c] else Lib.decDigits (u / 10) ++ [c]:=by
      rw [Lib.decDigits]
      by_cases g : u < 10
      · rw [dif_pos g,if_pos g,hc,Nat.mod_eq_of_lt g]
      · rw [dif_neg g,if_neg g,hc]
    by_cases g : u < 10
    · rw [if_pos g] at hdc
      rw [hdc] at hd
      have hz : (u : Int) / 10 = 0:=by omega
      have HX : Hid (Lib.decDigits N = c :: acc):=hd
      have HG : Hid (Grown w (wr.alloc (.cells #[.int .u8 (48 + (u : Int) % 10)] 5))):=Grown.alloc gw _ _
      clear hd hdc gw hc hcn
      go_wp2_with fail
      go_ret
      refine ⟨?_,HG⟩
      rw [show Lib.decDigits N = _ from HX]
      first | rfl | (rw [← hap];rfl) | (simp [hap];done)
    · rw [if_neg g] at hdc
      rw [hdc,List.append_assoc] at hd
      have hz : ¬ (u : Int) / 10 = 0:=by omega
      have hz2 : ((u : Int) / 10 == 0) = false:=by simpa using hz
      have HX : Hid (Grown w (wr.alloc (.cells #[.int .u8 (48 + (u : Int) % 10)] 5)) ∧ Lib.decDigits N = Lib.decDigits (u / 10) ++ (c :: acc)):=(⟨Grown.alloc gw _ _,hd⟩ : _ ∧ _)
      clear hd hdc gw hc hcn
      go_wp2_with fail
      go_roundw
      case rel=>exact ⟨u / 10,c :: acc,by first | rfl | (simp;done) | (congr 1;omega),by first | rfl | rw [hap],by omega,HX⟩
      case measure=>simp [intOf];omega
theorem sp_dec (n : Int) (h0 : -9223372036854775808 ≤ n) (h1 : n ≤ 9223372036854775807) (w : World) : Calls Tryd.prog 11 #[.int .i64 n] w fun e w'=>e = .returned (.string (itx n)) ∧ Grown w w':=by
  by_cases hn : n < 0
  · by_cases hm : n = -9223372036854775808
    · subst hm
      have e : itx (-9223372036854775808) = ⟨#[45,57,50,50,51,51,55,50,48,51,54,56,53,52,55,55,53,56,48,56]⟩:=by
        unfold itx Lib.itoa
        rw [if_pos (by omega)]
        decide +kernel
      rw [e]
      go_enter Tryd.func11,Tryd.ntmps11
      go_wp2_with fail
      go_ret
      exact ⟨rfl,by go_grown⟩
    · have HD:=fun w=>sp_decp n.natAbs (by omega) w
      rw [show ((n.natAbs : Nat) : Int) = -n by omega] at HD
      have hw : wrap64 (-n) = -n:=by unfold wrap64;omega
      have e : itx n = ⟨#[45]⟩ ++ ⟨(Lib.decDigits n.natAbs).toArray⟩:=by
        unfold itx Lib.itoa
        rw [if_pos hn]
        apply ByteArray.ext
        simp
      rw [e]
      have hl:=dec_len n.natAbs (by omega)
      generalize Lib.decDigits n.natAbs = D at *
      have hl2 : ¬ 9223372036854775807 < 1 + D.length:=by omega
      go_enter Tryd.func11,Tryd.ntmps11
      go_wp2_with fail
      first | (rw [hw]) | skip
      refine (HD _).mono ?_
      rintro e w1 ⟨rfl,g1⟩
      have G1 : Hid (Grown w w1):=g1
      clear g1 HD
      go_wp2_with fail
      go_ret
      exact ⟨rfl,G1⟩
  · have:=sp_decp n.toNat (by omega) w
    rw [show ((n.toNat : Nat) : Int) = n by omega] at this
    unfold itx Lib.itoa
    rw [if_neg hn]
    exact this
end Go.Proofs.YtjakooihcbdcaaaDoor
