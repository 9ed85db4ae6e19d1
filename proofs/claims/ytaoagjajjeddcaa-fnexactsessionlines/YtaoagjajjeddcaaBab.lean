import Derived.Test.YtaoagjajjeddcaaBaa
import Derived.Deep.RegionHeldLaw
import Derived.Deep.CutBlock
namespace Go.Proofs.Ytaoagjajjeddcaa.Fo
open Go.ChangeShapes Go.WideShapes Go.ChangeAt Go.RowKit
set_option linter.unusedVariables false
theorem conv_one (W : World) (c : UInt8) : (convert 65 9 (.slice (some ⟨W.heap.size, 0, none⟩) 1 1)).run Try.prog (W.alloc (.cells #[.int .u8 (c.toNat : Int)] 5)) = .ok (.string ⟨#[c]⟩) (W.alloc (.cells #[.int .u8 (c.toNat : Int)] 5)) := by
  have := run_convert_bytes_back (P := Try.prog) (W.alloc (.cells #[.int .u8 (c.toNat : Int)] 5)) 65 9 5 ⟨W.heap.size, 0, none⟩ 1 [c] Try.underlying65 Try.underlying5 Try.underlying9 (fun j hj => by
    obtain rfl : j = 0 := by simp at hj; omega
    simp [Addr.add])
  simpa using this
/-- the digits of a mark's text -/
def mtl (k : Nat) (out : ByteArray) : ByteArray := if h : k = 0 then out else mtl (k / 10) (⟨#[UInt8.ofNat (48 + k % 10)]⟩ ++ out)
termination_by k
decreasing_by omega
set_option maxRecDepth 100000 in
set_option maxHeartbeats 4000000 in
theorem mark_text (k : Nat) (hk : 1 ≤ k) (hk2 : (k : Int) ≤ 1000000000) (w : World) : Calls Try.prog 34 #[.int .i64 (k : Int)] w fun e w' => e = .returned (.string (⟨#[109]⟩ ++ mtl k ⟨#[]⟩)) ∧ Below w.heap.size w w' := by
  have hk0 : ¬ (k : Int) ≤ 0 := by omega
  go_enter Try.func34, Try.ntmps34
  go_upto_block 0 with fail
  go_wp2_with fail
  go_loopw [0, 3] (fun s0 s3 wr => ∃ (j : Nat) (out : ByteArray), s0 = .int .i64 (j : Int) ∧ s3 = .string out ∧ j + out.size ≤ k ∧ Hid (mtl j out = mtl k ⟨#[]⟩ ∧ Below w.heap.size w wr)) (fun s0 _ _ => (intOf s0).toNat)
  case atStart => exact ⟨k, ⟨#[]⟩, rfl, rfl, (by show k + 0 ≤ k; omega), (⟨rfl, Below.refl _ _⟩ : _ ∧ _)⟩
  case round =>
    obtain ⟨j, out, rfl, rfl, hj, HB⟩ := hrel
    have hsz : ¬ 9223372036854775807 < 1 + out.size := by omega
    by_cases h0 : j = 0
    · subst h0
      have hB := (show mtl 0 out = mtl k ⟨#[]⟩ ∧ Below w.heap.size w wr from HB)
      have e : out = mtl k ⟨#[]⟩ := by rw [← hB.1]; unfold mtl; rfl
      have HB2 : Hid (out = mtl k ⟨#[]⟩ ∧ Below w.heap.size w wr) := (⟨e, hB.2⟩ : _ ∧ _)
      clear HB hB e
      go_wp2_with fail
      go_ret
      rw [show out = mtl k ⟨#[]⟩ from HB2.1]
      exact ⟨rfl, HB2.2⟩
    · have hj0 : (0 : Int) < (j : Int) := by omega
      have hd0 : (0 : Int) ≤ ((j % 10 : Nat) : Int) := by omega
      have hd1 : ((j % 10 : Nat) : Int) < 10 := by omega
      have hq : Int.tmod (j : Int) 10 = ((j % 10 : Nat) : Int) := rfl
      have hq2 : Int.tdiv (j : Int) 10 = ((j / 10 : Nat) : Int) := rfl
      have hcv := conv_one wr (UInt8.ofNat (48 + j % 10))
      have hcn : ((UInt8.ofNat (48 + j % 10)).toNat : Int) = 48 + ((j % 10 : Nat) : Int) := by
        have : (UInt8.ofNat (48 + j % 10)).toNat = 48 + j % 10 := by
          rw [UInt8.toNat_ofNat']; omega
        omega
      rw [hcn] at hcv
      have hstep : mtl j out = mtl (j / 10) (⟨#[UInt8.ofNat (48 + j % 10)]⟩ ++ out) := by rw [mtl, dif_neg h0]
      have HB1 : Hid (mtl (j / 10) (⟨#[UInt8.ofNat (48 + j % 10)]⟩ ++ out) = mtl k ⟨#[]⟩ ∧ Below w.heap.size w (wr.alloc (.cells #[.int .u8 (48 + ((j % 10 : Nat) : Int))] 5))) :=
        (⟨hstep.symm.trans HB.1, HB.2.alloc HB.2.size _⟩ : _ ∧ _)
      clear HB hstep hcn
      generalize UInt8.ofNat (48 + j % 10) = c at *
      generalize ((j % 10 : Nat) : Int) = r at *
      generalize hjq : j / 10 = jq at *
      go_wp2_with fail
      go_roundw
      case rel => exact ⟨jq, ⟨#[c]⟩ ++ out, rfl, rfl, by rw [ByteArray.size_append]; show jq + (1 + out.size) ≤ k; omega, HB1⟩
      case measure => simp [intOf]; omega
/-- what is left of a bound behind the first i lengths; below 0 it stays -1 -/
def lfs (A : Nat → ByteArray) (l : Int) : Nat → Int
  | 0 => l
  | i + 1 => lfs A l i - ((A i).size : Int)
theorem lfs_le (A : Nat → ByteArray) (l : Int) (i : Nat) : lfs A l i ≤ l := by
  induction i with
  | zero => exact Int.le_refl _
  | succ i ih => show lfs A l i - ((A i).size : Int) ≤ l; omega
theorem lfs_mono (A : Nat → ByteArray) (l : Int) {i n : Nat} (h : i ≤ n) : lfs A l n ≤ lfs A l i := by
  induction n with
  | zero => obtain rfl : i = 0 := by omega
            exact Int.le_refl _
  | succ n ih =>
    by_cases e : i = n + 1
    · subst e; exact Int.le_refl _
    · have := ih (by omega)
      show lfs A l n - ((A n).size : Int) ≤ _
      omega
end Go.Proofs.Ytaoagjajjeddcaa.Fo
