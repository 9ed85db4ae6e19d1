import Derived.Test.YtabffkfoafcmpabDoorFmt
import Derived.Test.YtabffkfoafcmpabDoorShelfU
import Derived.Lib.ItoaMem
namespace Go.Proofs.YtabffkfoafcmpabDoor
open Go.ChangeShapes Go.WideShapes Go.ChangeAt Go.RowKit
set_option linter.unusedVariables false
theorem pow2_no (b : Nat) (z : Bool) (h : (bits .and .i64 (b : Int) ((b : Int) - 1) == 0) = z) (hb : 2 ≤ b) (hb2 : b ≤ 36) (w : World) :
    Calls Tryd.prog 38 #[.int .i64 b] w fun e w' => e = .returned (.bool z) ∧ w' = w := by
  go_enter Tryd.func38, Tryd.ntmps38
  go_wp2
  go_ret
  exact ⟨rfl, rfl⟩
/-- the bytes of a new array -/
def Z65 : Array Value := Array.replicate 65 (.int .u8 0)
theorem zv63 (w : World) : (zeroValue 59).run Tryd.prog w = .ok (.agg Z65) w := by kernel_rfl
theorem row0 (w : World) : Row w (w.alloc (.cells Z65 59)) 65 [] := by
  refine ⟨Grown.alloc (Grown.refl _) _ _, fun j hj => ⟨0, ?_⟩, fun j hj => ?_, fun j hj => by simp at hj⟩
  · rw [World.cell?_alloc_new]
    unfold Z65
    simp [hj]
  · exact World.frozen?_alloc_new _ _ _ _
theorem wrt_step (b u : Nat) (hb : 2 ≤ b) (hu : b ≤ u) : wrt b u = wrt b (u / b) ++ [dg (u % b)] := by
  have h1 : 1 ≤ u / b := (Nat.le_div_iff_mul_le (by omega)).2 (by omega)
  unfold wrt
  rw [if_neg (by omega), if_neg (by omega), wr_pos b u hb (by omega)]
theorem wrt_last (b u : Nat) (hb : 2 ≤ b) (hu : u < b) : wrt b u = [dg u] := by
  unfold wrt
  by_cases h : u = 0
  · subst h; rfl
  · rw [if_neg h, wr_small b u hb h hu]
theorem wrt_ne (b u : Nat) (hb : 2 ≤ b) : 1 ≤ (wrt b u).length := by
  by_cases h : u < b
  · rw [wrt_last b u hb h]; simp
  · rw [wrt_step b u hb (by omega)]; simp
/-- how far the digits are written: what is left, and the row -/
structure At (b n : Nat) (w wr : World) (u : Nat) (i : Nat) (S : List UInt8) : Prop where
  told : wrt b n = wrt b u ++ S
  len : i + S.length = 65
  lo : 2 ≤ i
  row : Row w wr i S
theorem At.start (b n : Nat) (hb : 2 ≤ b) (w : World) : At b n w (w.alloc (.cells Z65 59)) n 65 [] := ⟨by simp, by simp, by omega, row0 w⟩
theorem At.next {b n : Nat} {w wr : World} {u k : Nat} {S : List UInt8} (h : At b n w wr u (k + 1) S) (hb : 2 ≤ b) (hn : n < 2 ^ 64) (hu : b ≤ u) :
    At b n w (wr.setCell ⟨w.heap.size, k, none⟩ (.int .u8 ((dg (u % b)).toNat : Int))) (u / b) k (dg (u % b) :: S) := by
  have hl := wrt_len b n hb hn
  have h1 := h.len
  have e : wrt b n = wrt b (u / b) ++ (dg (u % b) :: S) := by rw [h.told, wrt_step b u hb hu]; simp
  have h2 := wrt_ne b (u / b) hb
  have h3 := congrArg List.length e
  simp at h3
  exact ⟨e, by simp; omega, by omega, h.row.store (by omega) _⟩
theorem At.cellk {b n : Nat} {w wr : World} {u k : Nat} {S : List UInt8} (h : At b n w wr u (k + 1) S) : (∃ z : Int, wr.cell? ⟨w.heap.size, k, none⟩ = some (.int .u8 z)) ∧ wr.frozen? ⟨w.heap.size, k, none⟩ = false ∧ k < 65 := by
  have := h.len
  exact ⟨h.row.cell k (by omega), h.row.free k (by omega), by omega⟩
theorem div_facts (u : Int) (b : Nat) (hb : 2 ≤ b) (hu : 0 ≤ u) : ∃ (q r : Nat) (p : Int), u / (b : Int) = (q : Int) ∧ (q : Int) * (b : Int) = p ∧ 0 ≤ p ∧ p ≤ u ∧ u - p = (r : Int) ∧ u.toNat / b = q ∧ u.toNat % b = r ∧ r < b ∧ ((b : Int) ≤ u → (q : Int) < u) := by
  obtain ⟨U, rfl⟩ := Int.eq_ofNat_of_zero_le hu
  have hd := Nat.div_add_mod U b
  have hm := Nat.mod_lt U (y := b) (by omega)
  rw [Nat.mul_comm] at hd
  refine ⟨U / b, U % b, ((U / b * b : Nat) : Int), by simp, by simp, by omega, by omega, by omega, by simp, by simp, hm, fun h => ?_⟩
  have := Nat.div_lt_self (n := U) (k := b) (by omega) (by omega)
  omega
theorem slk (B k : Nat) (hk : k < 65) (W : World) : (Instr.sliceAt 59 (.pointer (some ⟨B, 0, none⟩)) (some (.int .i64 (k : Int))) none none).run Tryd.prog W = .ok (.slice (some ⟨B, k, none⟩) (65 - k) (65 - k)) W := by
  have hal : Tryd.prog.arrayLen 59 = 65 := by simp [Program.arrayLen, Tryd.underlying59]
  rw [run_sliceAt_array_l W 59 ⟨B, 0, none⟩ (by simp [Program.arrayLen, Program.elem, Tryd.underlying59]) .i64 (k : Int) (by omega) (by rw [hal]; omega)]
  go_simp
  omega
theorem cvk {w W : World} {k : Nat} {L : List UInt8} (h : Row w W k L) (hl : L.length = 65 - k) : (convert 52 9 (.slice (some ⟨w.heap.size, k, none⟩) (65 - k) (65 - k))).run Tryd.prog W = .ok (.string ⟨L.toArray⟩) W := by
  have := run_convert_bytes_back (P := Tryd.prog) W 52 9 5 ⟨w.heap.size, k, none⟩ (65 - k) L Tryd.underlying52 Tryd.underlying5 Tryd.underlying9 (fun j hj => by
    rw [Lib.add_plain]
    exact h.row j hj)
  rw [hl] at this
  exact this
end Go.Proofs.YtabffkfoafcmpabDoor
