import Derived.Test.YtgocahalfanpjaaDoorBaa
import Derived.Deep.RegionHeldLaw
import Derived.Deep.CutBlock
namespace Go.Proofs.YtgocahalfanpjaaDoor.Fo
open Go.ChangeShapes Go.WideShapes Go.ChangeAt Go.RowKit
set_option linter.unusedVariables false
theorem conv_one (W : World) (c : UInt8) : (convert 53 9 (.slice (some ⟨W.heap.size, 0, none⟩) 1 1)).run Tryd.prog (W.alloc (.cells #[.int .u8 (c.toNat : Int)] 5)) = .ok (.string ⟨#[c]⟩) (W.alloc (.cells #[.int .u8 (c.toNat : Int)] 5)) := by
  have := run_convert_bytes_back (P := Tryd.prog) (W.alloc (.cells #[.int .u8 (c.toNat : Int)] 5)) 53 9 5 ⟨W.heap.size, 0, none⟩ 1 [c] Tryd.underlying53 Tryd.underlying5 Tryd.underlying9 (fun j hj => by
    obtain rfl : j = 0 := by simp at hj; omega
    simp [Addr.add])
  simpa using this
/-- the digits of a mark's text -/
def mtl (k : Nat) (out : ByteArray) : ByteArray := if h : k = 0 then out else mtl (k / 10) (⟨#[UInt8.ofNat (48 + k % 10)]⟩ ++ out)
termination_by k
decreasing_by omega
set_option maxRecDepth 100000 in
set_option maxHeartbeats 4000000 in
theorem mark_text (k : Nat) (hk : 1 ≤ k) (hk2 : (k : Int) ≤ 1000000000) (w : World) : Calls Tryd.prog 25 #[.int .i64 (k : Int)] w fun e w' => e = .returned (.string (⟨#[109]⟩ ++ mtl k ⟨#[]⟩)) ∧ Below w.heap.size w w' := by
  have hk0 : ¬ (k : Int) ≤ 0 := by omega
  go_enter Tryd.func25, Tryd.ntmps25
  go_upto_block 0 with fail
  go_wp2_with fail
  go_loopw [0, 3] (fun s0 s3 wr => ∃ (j : Nat) (out : ByteArray), s0 = .int .i64 (j : Int) ∧ s3 = .string out ∧ j + out.size ≤ k ∧ Hid (mtl j out = mtl k ⟨#[]⟩ ∧ Below w.heap.size w wr)) (fun s0 _ _ => (intOf s0).toNat)
  case atStart => exact ⟨k, ⟨#[]⟩, rfl, rfl, (by show k + 0 ≤ k; omega), (⟨rfl, Below.refl _ _⟩ : _ ∧ _)⟩
  case round =>
    obtain ⟨j, out, rfl, rfl, hj, HB⟩ := hrel
    have hsz : ¬ 9223372036854775807 < 1 + out.size := by omega
    by_cases h0 : j = 0
    · subst h0
      have hB := (show mtl 0 out = mtl k ⟨#[]⟩ ∧ Below w.heap.size w wr from HB)
      have e : out = mtl k ⟨#[]⟩ := by rw [← hB.1]; unfold mtl; rfl
      have HB2 : Hid (out = mtl k ⟨#[]⟩ ∧ Below w.heap.size w wr) := (⟨e, hB.2⟩ : _ ∧ _)
      clear HB hB e
      go_wp2_with fail
      go_ret
      rw [show out = mtl k ⟨#[]⟩ from HB2.1]
      exact ⟨rfl, HB2.2⟩
    · have hj0 : (0 : Int) < (j : Int) := by omega
      have hd0 : (0 : Int) ≤ ((j % 10 : Nat) : Int) := by omega
      have hd1 : ((j % 10 : Nat) : Int) < 10 := by omega
      have hq : Int.tmod (j : Int) 10 = ((j % 10 : Nat) : Int) := rfl
      have hq2 : Int.tdiv (j : Int) 10 = ((j / 10 : Nat) : Int) := rfl
      have hcv := conv_one wr (UInt8.ofNat (48 + j % 10))
      have hcn : ((UInt8.ofNat (48 + j % 10)).toNat : Int) = 48 + ((j % 10 : Nat) : Int) := by
        have : (UInt8.ofNat (48 + j % 10)).toNat = 48 + j % 10 := by
          rw [UInt8.toNat_ofNat']; omega
        omega
      rw [hcn] at hcv
      have hstep : mtl j out = mtl (j / 10) (⟨#[UInt8.ofNat (48 + j % 10)]⟩ ++ out) := by rw [mtl, dif_neg h0]
      have HB1 : Hid (mtl (j / 10) (⟨#[UInt8.ofNat (48 + j % 10)]⟩ ++ out) = mtl k ⟨#[]⟩ ∧ Below w.heap.size w (wr.alloc (.cells #[.int .u8 (48 + ((j % 10 : Nat) : Int))] 5))) :=
        (⟨hstep.symm.trans HB.1, HB.2.alloc HB.2.size _⟩ : _ ∧ _)
      clear HB hstep hcn
      generalize UInt8.ofNat (48 + j % 10) = c at *
      generalize ((j % 10 : Nat) : Int) = r at *
      generalize hjq : j / 10 = jq at *
      go_wp2_with fail
      go_roundw
      case rel => exact ⟨jq, ⟨#[c]⟩ ++ out, rfl, rfl, by rw [ByteArray.size_append]; show jq + (1 + out.size) ≤ k; omega, HB1⟩
      case measure => simp [intOf]; omega
/-- what is left of a bound behind the first i lengths; below 0 it stays -1 -/
def lfs (A : Nat → ByteArray) (l : Int) : Nat → Int
  | 0 => l
  | i + 1 => lfs A l i - ((A i).size : Int)
theorem lfs_le (A : Nat → ByteArray) (l : Int) (i : Nat) : lfs A l i ≤ l := by
  induction i with
  | zero => exact Int.le_refl _
  | succ i ih => show lfs A l i - ((A i).size : Int) ≤ l; omega
theorem lfs_mono (A : Nat → ByteArray) (l : Int) {i n : Nat} (h : i ≤ n) : lfs A l n ≤ lfs A l i := by
  induction n with
  | zero => obtain rfl : i = 0 := by omega
            exact Int.le_refl _
  | succ n ih =>
    by_cases e : i = n + 1
    · subst e; exact Int.le_refl _
    · have := ih (by omega)
      show lfs A l n - ((A n).size : Int) ≤ _
      omega
set_option maxRecDepth 100000 in
set_option maxHeartbeats 4000000 in
theorem sz_strs {va : Value} {n : Nat} {A : Nat → ByteArray} (w : World) (l : Int) (ha : RowV w va n (fun i => .string (A i))) (hn : (n : Int) < 140737488355328) (hA : ∀ i, i < n → ((A i).size : Int) < 140737488355328) (hl0 : 0 ≤ l) (hl : l ≤ 1048576) :
    Calls Tryd.prog 8 #[va, .int .i64 l] w fun e w' => e = .returned (.int .i64 (if lfs A (l - n) n < 0 then -1 else lfs A (l - n) n)) ∧ w' = w := by
  obtain ⟨pa, ca, rfl, ha2⟩ := ha
  have HA : Hid ((0 < n → ∃ a : Addr, pa = some a ∧ n ≤ ca ∧ ∀ i, i < n → w.cell? (a.add i) = some (.string (A i))) ∧ ∀ i, i < n → ((A i).size : Int) < 140737488355328) := (⟨ha2, hA⟩ : _ ∧ _)
  clear ha2 hA
  go_enter Tryd.func8, Tryd.ntmps8
  rcases Int.lt_or_le (l - n) 0 with h | h
  · rw [if_pos (Int.lt_of_le_of_lt (lfs_le A (l - n) n) h)]
    clear HA
    go_wp2_with fail
    go_ret
    exact ⟨rfl, rfl⟩
  · have h' : ¬ (l - n < 0) := by omega
    generalize hR : (if lfs A (l - n) n < 0 then (-1 : Int) else lfs A (l - n) n) = R
    have HR : Hid ((if lfs A (l - n) n < 0 then (-1 : Int) else lfs A (l - n) n) = R) := hR
    clear hR
    go_wp2_with fail
    go_loopw [1, 5] (fun s1 s5 wr => ∃ (i : Nat) (x : Int), s1 = .int .i64 x ∧ s5 = .int .i64 (i : Int) ∧ i ≤ n ∧ 0 ≤ x ∧ x ≤ 1048576 ∧ wr = w ∧ Hid (x = lfs A (l - n) i)) (fun _ s5 _ => n - (intOf s5).toNat)
    case atStart => exact ⟨0, l - n, rfl, rfl, Nat.zero_le _, by omega, by omega, rfl, (rfl : l - n = lfs A (l - n) 0)⟩
    case round =>
      obtain ⟨i, x, rfl, rfl, hin, hx0, hx1, rfl, HX⟩ := hrel
      rcases Nat.lt_or_ge i n with hi | hi
      · obtain ⟨a, rfl, hca, hra⟩ := (show (0 < n → ∃ a : Addr, pa = some a ∧ n ≤ ca ∧ ∀ i, i < n → wr.cell? (a.add i) = some (.string (A i))) ∧ ∀ i, i < n → ((A i).size : Int) < 140737488355328 from HA).1 (by omega)
        have hsz := (show (0 < n → ∃ a' : Addr, some a = some a' ∧ n ≤ ca ∧ ∀ i, i < n → wr.cell? (a'.add i) = some (.string (A i))) ∧ ∀ i, i < n → ((A i).size : Int) < 140737488355328 from HA).2 i hi
        have hiI : (i : Int) < (n : Int) := by omega
        have qa := hra i hi
        have HX2 : Hid (x - ((A i).size : Int) = lfs A (l - n) (i + 1)) := by
          show x - ((A i).size : Int) = lfs A (l - n) i - ((A i).size : Int)
          rw [show x = lfs A (l - n) i from HX]
        have hneg : x - ((A i).size : Int) < 0 → R = -1 := by
          intro hh
          rw [← show (if lfs A (l - n) n < 0 then (-1 : Int) else lfs A (l - n) n) = R from HR, if_pos]
          have := lfs_mono A (l - n) (show i + 1 ≤ n from hi)
          rw [← show x - ((A i).size : Int) = lfs A (l - n) (i + 1) from HX2] at this
          omega
        have HN : Hid (x - ((A i).size : Int) < 0 → R = -1) := hneg
        clear hra HA HX HR hin hneg
        have hs0 : (0 : Int) ≤ ((A i).size : Int) := Int.natCast_nonneg _
        generalize hS : A i = S at *
        rcases Int.lt_or_le (x - (S.size : Int)) 0 with hx | hx
        · go_wp2_with fail
          go_ret
          rw [show R = -1 from HN hx]
          exact ⟨rfl, rfl⟩
        · have hx' : ¬ (x - (S.size : Int) < 0) := by omega
          clear HN
          go_wp2_with fail
          go_roundw
          case rel => exact ⟨i + 1, x - (S.size : Int), by go_num, by go_num, by omega, hx, by omega, by trivial, by first | exact HX2 | (simpa using HX2)⟩
          case measure => simp [intOf]; omega
      · obtain rfl : i = n := by omega
        clear HA
        have HR2 : Hid (x = R) := by
          show x = R
          rw [← show (if lfs A (l - i) i < 0 then (-1 : Int) else lfs A (l - i) i) = R from HR, ← show x = lfs A (l - i) i from HX, if_neg (by omega)]
        clear HR HX
        go_wp2_with fail
        go_ret
        rw [show x = R from HR2]
        exact ⟨rfl, rfl⟩
end Go.Proofs.YtgocahalfanpjaaDoor.Fo
