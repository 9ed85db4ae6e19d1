import Derived.Test.YtaggciimacanbaaMUal
import Derived.Test.YtaggciimacanbaaMKac
namespace Go.Proofs.Ytaggciimacanbaa.Fo
open Go.ChangeShapes Go.WideShapes Go.ChangeAt Go.RowKit
set_option linter.unusedVariables false
set_option maxRecDepth 100000
set_option linter.unusedSimpArgs false
/-- a block's bytes -/
def m8 (A : Nat → Int) : List UInt8 := (List.range 64).map (fun j => UInt8.ofNat (A j).toNat)
def R8 (A : Nat → Int) : Prop := ∀ j, j < 64 → 0 ≤ A j ∧ A j ≤ 255
theorem m8_len (A : Nat → Int) : (m8 A).length = 64 := by unfold m8; rw [List.length_map, List.length_range]
theorem m8_at (A : Nat → Int) {i : Nat} (h : i < 64) : (m8 A)[i]? = some (UInt8.ofNat (A i).toNat) := by
  unfold m8
  rw [List.getElem?_map, List.getElem?_range h]
  rfl
theorem m8_val {A : Nat → Int} (h : R8 A) {i : Nat} {x : UInt8} (hx : (m8 A)[i]? = some x) : i < 64 ∧ (x.toNat : Int) = A i := by
  have hi : i < 64 := by have := (List.getElem?_eq_some_iff.1 hx).1; rw [m8_len] at this; exact this
  rw [m8_at A hi] at hx
  injection hx with hx
  have := h i hi
  rw [← hx, tn (by omega)]
  exact ⟨hi, by omega⟩
theorem m8_eq {A B : Nat → Int} (ha : R8 A) (hb : R8 B) : m8 A = m8 B ↔ ∀ i, i < 64 → A i = B i := by
  constructor
  · intro h i hi
    have h1 := m8_at A hi
    rw [h] at h1
    have := (m8_val hb h1).2
    have h2 := (m8_val ha (m8_at A hi)).2
    omega
  · intro h
    unfold m8
    refine List.map_congr_left (fun j hj => ?_)
    rw [h j (by simpa using hj)]
theorem e8_mod (y : Nat) {n : Nat} (z : Nat) : ∀ k, k ≤ n → e8 (y + 256 ^ n * z) k = e8 y k
  | 0, _ => rfl
  | k + 1, h => by
    have hp : 256 ^ n = 256 ^ k * (256 * 256 ^ (n - k - 1)) := by rw [← Nat.pow_succ', ← Nat.pow_add]; congr 1; omega
    have e : (y + 256 ^ n * z) / 256 ^ k = y / 256 ^ k + 256 * (256 ^ (n - k - 1) * z) := by
      rw [hp, Nat.mul_assoc, Nat.mul_assoc, Nat.add_mul_div_left _ _ (Nat.pow_pos (by decide))]
    rw [e8, e8, e8_mod y z k (by omega), e]
    congr 2
    rw [← UInt8.toNat_inj, UInt8.toNat_ofNat', UInt8.toNat_ofNat']
    omega
/-- every row of n bytes is some number's -/
theorem e8_any : ∀ (n : Nat) (L : List UInt8), L.length = n → ∃ y, y < 256 ^ n ∧ L = e8 y n
  | 0, L, h => ⟨0, by decide, List.length_eq_zero_iff.1 h⟩
  | n + 1, L, h => by
    obtain ⟨y, hy, hl⟩ := e8_any n (L.take n) (by rw [List.length_take]; omega)
    have hn : n < L.length := by omega
    refine ⟨y + 256 ^ n * L[n].toNat, ?_, ?_⟩
    · have h1 : L[n].toNat < 256 := UInt8.toNat_lt _
      have h2 : 256 ^ n * L[n].toNat ≤ 256 ^ n * 255 := Nat.mul_le_mul_left _ (by omega)
      rw [Nat.pow_succ]
      omega
    · rw [e8, e8_mod y _ n (Nat.le_refl _), ← hl, Nat.add_mul_div_left _ _ (Nat.pow_pos (by decide)), Nat.div_eq_of_lt hy, Nat.zero_add, UInt8.ofNat_toNat]
      have := List.take_append_drop n L
      rw [List.drop_eq_getElem_cons hn, List.drop_eq_nil_of_le (by omega)] at this
      exact this.symm
theorem cut8 (M : List UInt8) (h : 8 ≤ M.length) : ∃ y, y < 18446744073709551616 ∧ M = e8 y 8 ++ M.drop 8 := by
  obtain ⟨y, hy, hl⟩ := e8_any 8 (M.take 8) (by rw [List.length_take]; omega)
  exact ⟨y, hy, by rw [← hl]; exact (List.take_append_drop 8 M).symm⟩
/-- the three numbers of a head -/
def Nums (M : List UInt8) (y1 y2 y3 : Nat) : Prop := (y1 < 18446744073709551616 ∧ y2 < 18446744073709551616 ∧ y3 < 18446744073709551616) ∧ M.drop 4 = e8 y1 8 ++ M.drop 12 ∧ M.drop 12 = e8 y2 8 ++ M.drop 20 ∧ M.drop 20 = e8 y3 8 ++ M.drop 28
theorem nums_any (A : Nat → Int) : ∃ y1 y2 y3, Nums (m8 A) y1 y2 y3 := by
  have hl := m8_len A
  obtain ⟨y1, h1, e1⟩ := cut8 ((m8 A).drop 4) (by rw [List.length_drop]; omega)
  obtain ⟨y2, h2, e2⟩ := cut8 ((m8 A).drop 12) (by rw [List.length_drop]; omega)
  obtain ⟨y3, h3, e3⟩ := cut8 ((m8 A).drop 20) (by rw [List.length_drop]; omega)
  rw [List.drop_drop] at e1 e2 e3
  exact ⟨y1, y2, y3, ⟨h1, h2, h3⟩, e1, e2, e3⟩
/-- the block is that head's -/
def Hd (A : Nat → Int) (g l s : Int) : Prop := Hok true g l ∧ ∀ i, i < 64 → hdb g l s i = A i
/-- the head that is read of a block -/
noncomputable def hdv (A : Nat → Int) (g l s : Int) : Value := if dc (Hd A g l s) = true then .agg #[.bool true, .int .i64 g, .int .i64 l, .int .i64 s] else .agg #[.bool false, .int .i64 0, .int .i64 0, .int .i64 0]
theorem hdv_t {A : Nat → Int} {g l s : Int} (h : Hd A g l s) : hdv A g l s = .agg #[.bool true, .int .i64 g, .int .i64 l, .int .i64 s] := by unfold hdv; rw [if_pos (dc_t h)]
theorem hdv_f {A : Nat → Int} {g l s : Int} (h : ¬ Hd A g l s) : hdv A g l s = .agg #[.bool false, .int .i64 0, .int .i64 0, .int .i64 0] := by unfold hdv; rw [dc_f h]; rfl
theorem hdb_r8 (g l s : Int) : R8 (hdb g l s) := fun j _ => hdb_rg g l s j
theorem w64_rg (x : Int) : -9223372036854775808 ≤ wrap64 x ∧ wrap64 x ≤ 9223372036854775807 := by unfold wrap64; omega
theorem hb_conv {W : World} {b : Nat} {g l s : Int} (h : OwnR W (.slice (some ⟨b, 0, none⟩) 64 64) b 64 (fun i => .int .u8 (hdb g l s i))) : (convert 26 9 (.slice (some ⟨b, 0, none⟩) 64 64)).run Try.prog W = .ok (.string ⟨(m8 (hdb g l s)).toArray⟩) W := by
  refine conv_row (fun _ => ⟨⟨b, 0, none⟩, rfl, Nat.le_refl _, fun i hi => ?_⟩) (m8_len _) (fun e => by cases e)
  rw [addr0, h.cell i hi]
  show some (Value.int .u8 (hdb g l s i)) = some (Value.int .u8 ((((m8 (hdb g l s)).getD i 0).toNat : Nat) : Int))
  rw [List.getD_eq_getElem?_getD, m8_at _ hi]
  have := (m8_val (hdb_r8 g l s) (m8_at (hdb g l s) hi)).2
  show some (Value.int .u8 (hdb g l s i)) = some (Value.int .u8 (((UInt8.ofNat (hdb g l s i).toNat).toNat : Nat) : Int))
  rw [this]
/-- the block of a head, and what it is beside another block -/
theorem im_hb {g l s : Int} (w : World) (hs0 : -9223372036854775808 ≤ s) (hs1 : s ≤ 9223372036854775807) :
    Calls Try.prog 71 #[.agg #[.bool true, .int .i64 g, .int .i64 l, .int .i64 s]] w fun e w' => ∃ p n c L, e = .returned (.slice p n c) ∧ (convert 26 9 (.slice p n c)).run Try.prog w' = .ok (.string ⟨L.toArray⟩) w' ∧ Kb 0 w w' ∧ ∀ A, R8 A → (L = m8 A ↔ Hd A g l s) := by
  by_cases h : Hok true g l
  · refine (im_head_yes w h hs0 hs1).mono ?_
    rintro e w' ⟨b, h1, h2, h3, h4, h5⟩
    refine ⟨_, _, _, m8 (hdb g l s), h1, hb_conv h4, h5, fun A hA => ?_⟩
    rw [m8_eq (hdb_r8 g l s) hA]
    exact ⟨fun q => ⟨h, q⟩, fun q => q.2⟩
  · refine (im_head_no w h).mono ?_
    rintro e w' ⟨h1, h2⟩
    refine ⟨_, _, _, [], h1, conv_zero _ _ _, h2, fun A hA => ⟨fun q => ?_, fun q => absurd q.1 h⟩⟩
    have := congrArg List.length q
    rw [m8_len] at this
    cases this
theorem four_set {V : World} {B : Nat} {T : TypeId} {c0 c1 c2 c3 : Value} (x0 x1 x2 x3 : Value) (bq : V.heap[B]? = some (.cells #[c0, c1, c2, c3] T (0, 0))) : ∃ WF, WF = ((((V.setCell ⟨B, 0, none⟩ x0).setCell ⟨B, 1, none⟩ x1).setCell ⟨B, 2, none⟩ x2).setCell ⟨B, 3, none⟩ x3) ∧ WF.heap[B]? = some (.cells #[x0, x1, x2, x3] T (0, 0)) ∧ Kz B V WF := by
  obtain ⟨WF, hWF⟩ : ∃ WF, WF = ((((V.setCell ⟨B, 0, none⟩ x0).setCell ⟨B, 1, none⟩ x1).setCell ⟨B, 2, none⟩ x2).setCell ⟨B, 3, none⟩ x3) := ⟨_, rfl⟩
  refine ⟨WF, hWF, ?_, ?_⟩
  · rw [hWF, set_known _ (set_known _ (set_known _ (set_known _ bq)))]; rfl
  · rw [hWF]; exact ((((Kz.refl B V).set 0 x0).set 1 x1).set 2 x2).set 3 x3
theorem Kz.kb {b : Nat} {a W w' : World} (z : Kz b W w') (k : Kb 0 a W) (h : a.heap.size ≤ b) : Kb 0 a w' := ⟨z.os.trans k.os, z.output.trans k.output, by rw [z.size]; exact k.size, fun q h1 h2 => (z.block q (by omega)).trans (k.block q h1 h2)⟩
end Go.Proofs.Ytaggciimacanbaa.Fo
