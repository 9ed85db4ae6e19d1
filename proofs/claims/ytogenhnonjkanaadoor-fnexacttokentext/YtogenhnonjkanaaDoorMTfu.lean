import Derived.Test.YtogenhnonjkanaaDoorMTfa
import Derived.Test.YtogenhnonjkanaaDoorMTft
import Derived.Lib.ItoaMem
namespace Go.Proofs.YtogenhnonjkanaaDoor.Fm
open Go.ChangeShapes Go.WideShapes Go.ChangeAt Go.RowKit
set_option linter.unusedVariables false
theorem pow2_no (b : Nat) (z : Bool) (h : (bits .and .i64 (b : Int) ((b : Int) - 1) == 0) = z) (hb : 2 ≤ b) (hb2 : b ≤ 36) (w : World) :
    Calls Tryd.prog 86 #[.int .i64 b] w fun e w' => e = .returned (.bool z) ∧ w' = w := by
  go_enter Tryd.func86, Tryd.ntmps86
  go_wp2
  go_ret
  exact ⟨rfl, rfl⟩
/-- the bytes of a new array -/
def Z65 : Array Value := Array.replicate 65 (.int .u8 0)
theorem zv63 (w : World) : (zeroValue 102).run Tryd.prog w = .ok (.agg Z65) w := by kernel_rfl
theorem row0 (w : World) : Row w (w.alloc (.cells Z65 102)) 65 [] := by
  refine ⟨Grown.alloc (Grown.refl _) _ _, fun j hj => ⟨0, ?_⟩, fun j hj => ?_, fun j hj => by simp at hj⟩
  · rw [World.cell?_alloc_new]
    unfold Z65
    simp [hj]
  · exact World.frozen?_alloc_new _ _ _ _
theorem wrt_step (b u : Nat) (hb : 2 ≤ b) (hu : b ≤ u) : wrt b u = wrt b (u / b) ++ [dg (u % b)] := by
  have h1 : 1 ≤ u / b := (Nat.le_div_iff_mul_le (by omega)).2 (by omega)
  unfold wrt
  rw [if_neg (by omega), if_neg (by omega), wr_pos b u hb (by omega)]
theorem wrt_last (b u : Nat) (hb : 2 ≤ b) (hu : u < b) : wrt b u = [dg u] := by
  unfold wrt
  by_cases h : u = 0
  · subst h; rfl
  · rw [if_neg h, wr_small b u hb h hu]
theorem wrt_ne (b u : Nat) (hb : 2 ≤ b) : 1 ≤ (wrt b u).length := by
  by_cases h : u < b
  · rw [wrt_last b u hb h]; simp
  · rw [wrt_step b u hb (by omega)]; simp
/-- how far the digits are written: what is left, and the row -/
structure At (b n : Nat) (w wr : World) (u : Nat) (i : Nat) (S : List UInt8) : Prop where
  told : wrt b n = wrt b u ++ S
  len : i + S.length = 65
  lo : 2 ≤ i
  row : Row w wr i S
theorem At.start (b n : Nat) (hb : 2 ≤ b) (w : World) : At b n w (w.alloc (.cells Z65 102)) n 65 [] := ⟨by simp, by simp, by omega, row0 w⟩
theorem At.next {b n : Nat} {w wr : World} {u k : Nat} {S : List UInt8} (h : At b n w wr u (k + 1) S) (hb : 2 ≤ b) (hn : n < 2 ^ 64) (hu : b ≤ u) :
    At b n w (wr.setCell ⟨w.heap.size, k, none⟩ (.int .u8 ((dg (u % b)).toNat : Int))) (u / b) k (dg (u % b) :: S) := by
  have hl := wrt_len b n hb hn
  have h1 := h.len
  have e : wrt b n = wrt b (u / b) ++ (dg (u % b) :: S) := by rw [h.told, wrt_step b u hb hu]; simp
  have h2 := wrt_ne b (u / b) hb
  have h3 := congrArg List.length e
  simp at h3
  exact ⟨e, by simp; omega, by omega, h.row.store (by omega) _⟩
theorem At.cellk {b n : Nat} {w wr : World} {u k : Nat} {S : List UInt8} (h : At b n w wr u (k + 1) S) : (∃ z : Int, wr.cell? ⟨w.heap.size, k, none⟩ = some (.int .u8 z)) ∧ wr.frozen? ⟨w.heap.size, k, none⟩ = false ∧ k < 65 := by
  have := h.len
  exact ⟨h.row.cell k (by omega), h.row.free k (by omega), by omega⟩
theorem div_facts (u : Int) (b : Nat) (hb : 2 ≤ b) (hu : 0 ≤ u) : ∃ (q r : Nat) (p : Int), u / (b : Int) = (q : Int) ∧ (q : Int) * (b : Int) = p ∧ 0 ≤ p ∧ p ≤ u ∧ u - p = (r : Int) ∧ u.toNat / b = q ∧ u.toNat % b = r ∧ r < b ∧ ((b : Int) ≤ u → (q : Int) < u) := by
  obtain ⟨U, rfl⟩ := Int.eq_ofNat_of_zero_le hu
  have hd := Nat.div_add_mod U b
  have hm := Nat.mod_lt U (y := b) (by omega)
  rw [Nat.mul_comm] at hd
  refine ⟨U / b, U % b, ((U / b * b : Nat) : Int), by simp, by simp, by omega, by omega, by omega, by simp, by simp, hm, fun h => ?_⟩
  have := Nat.div_lt_self (n := U) (k := b) (by omega) (by omega)
  omega
theorem slk (B k : Nat) (hk : k < 65) (W : World) : (Instr.sliceAt 102 (.pointer (some ⟨B, 0, none⟩)) (some (.int .i64 (k : Int))) none none).run Tryd.prog W = .ok (.slice (some ⟨B, k, none⟩) (65 - k) (65 - k)) W := by
  have hal : Tryd.prog.arrayLen 102 = 65 := by simp [Program.arrayLen, Tryd.underlying102]
  rw [run_sliceAt_array_l W 102 ⟨B, 0, none⟩ (by simp [Program.arrayLen, Program.elem, Tryd.underlying102]) .i64 (k : Int) (by omega) (by rw [hal]; omega)]
  go_simp
  omega
theorem cvk {w W : World} {k : Nat} {L : List UInt8} (h : Row w W k L) (hl : L.length = 65 - k) : (convert 66 9 (.slice (some ⟨w.heap.size, k, none⟩) (65 - k) (65 - k))).run Tryd.prog W = .ok (.string ⟨L.toArray⟩) W := by
  have := run_convert_bytes_back (P := Tryd.prog) W 66 9 5 ⟨w.heap.size, k, none⟩ (65 - k) L Tryd.underlying66 Tryd.underlying5 Tryd.underlying9 (fun j hj => by
    rw [Lib.add_plain]
    exact h.row j hj)
  rw [hl] at this
  exact this
set_option maxRecDepth 100000 in
set_option maxHeartbeats 2000000 in
theorem fmt_gen (n : Int) (b : Nat) (hb : 2 ≤ b) (hb2 : b ≤ 36) (hb10 : ((b : Int) == 10) = false) (hp : (bits .and .i64 (b : Int) ((b : Int) - 1) == 0) = false) (hn : 0 ≤ n) (hn2 : n ≤ 18446744073709551615) (w : World) :
    Calls Tryd.prog 73 #[.slice none 0 0, .int .u64 n, .int .i64 b, .bool false, .bool false] w fun e w' => e = .returned (.tuple #[.slice none 0 0, .string ⟨(wrt b n.toNat).toArray⟩]) ∧ Grown w w' := by
  have h41 := fun w => pow2_no b false hp hb hb2 w
  have hv := zv63
  clear hp
  go_enter Tryd.func73, Tryd.ntmps73
  go_wp2_with (go_at_call 86; refine (h41 _).mono ?_; rintro e w' ⟨rfl, rfl⟩)
  clear h41 hv
  go_loopw [13, 1] (fun vi vu wr => ∃ (u : Int) (i : Nat) (S : List UInt8), Hid (At b n.toNat w wr u.toNat i S) ∧ 0 ≤ u ∧ u ≤ 18446744073709551615 ∧ 2 ≤ i ∧ i ≤ 65 ∧ vi = .int .i64 i ∧ vu = .int .u64 u) (fun _ vu _ => (intOf vu).toNat)
  case atStart => exact ⟨n, 65, [], At.start b n.toNat hb w, hn, hn2, by omega, by omega, rfl, rfl⟩
  case round =>
    obtain ⟨u, i, S, HA, hu, hu2, hi, hi2, rfl, rfl⟩ := hrel
    obtain ⟨k, rfl⟩ : ∃ k, i = k + 1 := ⟨i - 1, by omega⟩
    obtain ⟨⟨z, hc⟩, hf, hk⟩ := (show At b n.toNat w wr u.toNat (k + 1) S from HA).cellk
    obtain ⟨q, r, p, d1, d2, d3, d4, d5, d6, d7, d8, d9⟩ := div_facts u b hb hu
    by_cases hge : (b : Int) ≤ u
    · have HN := (show At b n.toNat w wr u.toNat (k + 1) S from HA).next hb (by omega) (by omega)
      rw [d6, d7] at HN
      have HN2 : Hid (At b n.toNat w (wr.setCell ⟨w.heap.size, k, none⟩ (.int .u8 ((dg r).toNat : Int))) q k (dg r :: S)) := HN
      have hlo := HN.lo
      have d10 := d9 hge
      have hix := idx r (by omega)
      clear HN d6 d7 d9 HA
      go_wp2
      exact ⟨⟨(q : Int), k, dg r :: S, (by rw [Int.toNat_natCast]; exact HN2), by omega, by omega, hlo, by omega, rfl, by rw [d1]⟩, by simp [intOf, d1]; omega⟩
    · clear d1 d2 d3 d4 d5 d6 d7 d8 d9
      obtain ⟨U, rfl⟩ := Int.eq_ofNat_of_zero_le hu
      have h := (show At b n.toNat w wr (U : Int).toNat (k + 1) S from HA)
      rw [Int.toNat_natCast] at h
      have hlen : (dg U :: S).length = 65 - k := by have := h.len; simp; omega
      have hrow := h.row.store hk (dg U)
      have HLI : Hid (wrt b n.toNat = dg U :: S) := by show wrt b n.toNat = dg U :: S; rw [h.told, wrt_last b U hb (by omega)]; rfl
      have hix := idx U (by omega)
      clear HA hu hu2 h hn hn2
      have hsl := slk w.heap.size k hk
      have hcv := cvk hrow hlen
      have hg := hrow.grown
      clear hrow hlen
      go_wp2
      go_ret2
      refine ⟨?_, hg⟩
      rw [show wrt b n.toNat = dg U :: S from HLI]
      rfl
set_option maxRecDepth 100000 in
set_option maxHeartbeats 2000000 in
theorem fmt_gen_neg (n0 n : Int) (b : Nat) (hb : 2 ≤ b) (hb2 : b ≤ 36) (hb10 : ((b : Int) == 10) = false) (hp : (bits .and .i64 (b : Int) ((b : Int) - 1) == 0) = false) (hw : IntKind.u64.wrap (-n0) = n) (hn : 0 ≤ n) (hn2 : n ≤ 18446744073709551615) (w : World) :
    Calls Tryd.prog 73 #[.slice none 0 0, .int .u64 n0, .int .i64 b, .bool true, .bool false] w fun e w' => e = .returned (.tuple #[.slice none 0 0, .string ⟨(45 :: wrt b n.toNat).toArray⟩]) ∧ Grown w w' := by
  have h41 := fun w => pow2_no b false hp hb hb2 w
  have hv := zv63
  clear hp
  go_enter Tryd.func73, Tryd.ntmps73
  go_wp2_with (go_at_call 86; refine (h41 _).mono ?_; rintro e w' ⟨rfl, rfl⟩)
  clear h41 hv
  go_loopw [13, 1] (fun vi vu wr => ∃ (u : Int) (i : Nat) (S : List UInt8), Hid (At b n.toNat w wr u.toNat i S) ∧ 0 ≤ u ∧ u ≤ 18446744073709551615 ∧ 2 ≤ i ∧ i ≤ 65 ∧ vi = .int .i64 i ∧ vu = .int .u64 u) (fun _ vu _ => (intOf vu).toNat)
  case atStart => exact ⟨n, 65, [], At.start b n.toNat hb w, hn, hn2, by omega, by omega, rfl, rfl⟩
  case round =>
    obtain ⟨u, i, S, HA, hu, hu2, hi, hi2, rfl, rfl⟩ := hrel
    obtain ⟨k, rfl⟩ : ∃ k, i = k + 1 := ⟨i - 1, by omega⟩
    obtain ⟨⟨z, hc⟩, hf, hk⟩ := (show At b n.toNat w wr u.toNat (k + 1) S from HA).cellk
    obtain ⟨q, r, p, d1, d2, d3, d4, d5, d6, d7, d8, d9⟩ := div_facts u b hb hu
    by_cases hge : (b : Int) ≤ u
    · have HN := (show At b n.toNat w wr u.toNat (k + 1) S from HA).next hb (by omega) (by omega)
      rw [d6, d7] at HN
      have HN2 : Hid (At b n.toNat w (wr.setCell ⟨w.heap.size, k, none⟩ (.int .u8 ((dg r).toNat : Int))) q k (dg r :: S)) := HN
      have hlo := HN.lo
      have d10 := d9 hge
      have hix := idx r (by omega)
      clear HN d6 d7 d9 HA
      go_wp2
      exact ⟨⟨(q : Int), k, dg r :: S, (by rw [Int.toNat_natCast]; exact HN2), by omega, by omega, hlo, by omega, rfl, by rw [d1]⟩, by simp [intOf, d1]; omega⟩
    · clear d1 d2 d3 d4 d5 d6 d7 d8 d9
      obtain ⟨U, rfl⟩ := Int.eq_ofNat_of_zero_le hu
      have h := (show At b n.toNat w wr (U : Int).toNat (k + 1) S from HA)
      rw [Int.toNat_natCast] at h
      have hlen : (dg U :: S).length = 65 - k := by have := h.len; simp; omega
      have hrow := h.row.store hk (dg U)
      have HLI : Hid (wrt b n.toNat = dg U :: S) := by show wrt b n.toNat = dg U :: S; rw [h.told, wrt_last b U hb (by omega)]; rfl
      have hix := idx U (by omega)
      obtain ⟨j, rfl⟩ : ∃ j, k = j + 1 := ⟨k - 1, by omega⟩
      obtain ⟨z2, hc2⟩ := h.row.cell j (by omega)
      have hf2 := h.row.free j (by omega)
      clear HA hu hu2 h hn hn2
      have hrow2 := hrow.store (by omega) 45
      have e45 : (((45 : UInt8).toNat : Nat) : Int) = 45 := rfl
      rw [e45] at hrow2
      have hsl := slk w.heap.size j (by omega)
      have hcv := cvk hrow2 (by simp at hlen ⊢; omega)
      have hg := hrow2.grown
      clear hrow hrow2 hlen e45
      go_wp2
      go_ret2
      refine ⟨?_, hg⟩
      rw [show wrt b n.toNat = dg U :: S from HLI]
      rfl
end Go.Proofs.YtogenhnonjkanaaDoor.Fm
