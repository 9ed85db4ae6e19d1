import Derived.Laws.Bits128
import Derived.Laws.DeepNot64
import Derived.Deep.QuietTactic
import Derived.BigQuiet
import Derived.Test.YtamcnmnaadpfoaaMPac
namespace Go.Proofs.Ytamcnmnaadpfoaa.Fo
open Go.ChangeShapes Go.WideShapes Go.ChangeAt Go.RowKit
set_option linter.unusedVariables false
set_option maxRecDepth 100000
def vb (u : Nat) : List UInt8 := if h : u < 128 then [UInt8.ofNat u] else UInt8.ofNat (128 + u % 128) :: vb (u / 128)
termination_by u
decreasing_by omega
theorem vb_lt {u : Nat} (h : u < 128) : vb u = [UInt8.ofNat u] := by rw [vb, dif_pos h]
theorem vb_ge {u : Nat} (h : ¬ u < 128) : vb u = UInt8.ofNat (128 + u % 128) :: vb (u / 128) := by rw [vb, dif_neg h]
theorem vb_len : ∀ (k u : Nat), u < 128 ^ (k + 1) → (vb u).length ≤ k + 1 := by
  intro k
  induction k with
  | zero => intro u h; rw [vb_lt (by simpa using h)]; simp
  | succ k ih =>
    intro u h
    by_cases c : u < 128
    · rw [vb_lt c]; simp
    · rw [vb_ge c, List.length_cons]
      have := ih (u / 128) (by rw [Nat.pow_succ] at h; exact Nat.div_lt_of_lt_mul (by rw [Nat.mul_comm]; exact h))
      omega
/-- how far the groups of y's number have come -/
def Gy (M : List UInt8) (k : Nat) (bad : Bool) (i u k' : Nat) (bad' : Bool) : Prop := ∀ (y : Nat) rest, y < 18446744073709551616 → M.drop k = vb y ++ rest → M.drop k' = vb (y / 128 ^ i) ++ rest ∧ u = y % 128 ^ i ∧ bad' = bad ∧ k' + (vb (y / 128 ^ i)).length = k + (vb y).length ∧ (i = 0 ∨ 128 ^ i ≤ y)
theorem drop_cons {M : List UInt8} {k : Nat} {z : UInt8} {r : List UInt8} (h : M.drop k = z :: r) : M[k]? = some z ∧ M.drop (k + 1) = r := by
  constructor
  · have := congrArg (fun l => l[0]?) h
    simpa using this
  · have := congrArg (fun l => l.drop 1) h
    simpa [List.drop_drop] using this
theorem tn {z : Nat} (h : z < 256) : (UInt8.ofNat z).toNat = z := by rw [UInt8.toNat_ofNat']; exact Nat.mod_eq_of_lt h
/-- the number so far, and one group more -/
def ad (u i x : Nat) : Nat := u ||| (x % 128 * 2 ^ (7 * i) % 18446744073709551616)
theorem ad_lt {u : Nat} (i x : Nat) (h : u < 18446744073709551616) : ad u i x < 18446744073709551616 := Nat.or_lt_two_pow (n := 64) h (Nat.mod_lt _ (by decide))
theorem p128 (i : Nat) : 128 ^ i = 2 ^ (7 * i) := by rw [Nat.pow_mul]
theorem ad_step {y i : Nat} (hy : y < 18446744073709551616) : ad (y % 128 ^ i) i (y / 128 ^ i % 128) = y % 128 ^ (i + 1) := by
  have e : y % 128 ^ (i + 1) = 2 ^ (7 * i) * (y / 128 ^ i % 128) + y % 128 ^ i := by rw [Nat.pow_succ, Nat.mod_mul, Nat.add_comm, p128]
  have hle : y % 128 ^ (i + 1) ≤ y := Nat.mod_le _ _
  unfold ad
  rw [Nat.mod_mod, Nat.mul_comm, Nat.mod_eq_of_lt (a := 2 ^ (7 * i) * _) (by omega), e, Nat.or_comm]
  exact (Nat.two_pow_add_eq_or_of_lt (by rw [← p128]; exact Nat.mod_lt _ (Nat.pow_pos (by decide))) _).symm
theorem ad_mod (u i x : Nat) : ad u i (x % 128) = ad u i x := by unfold ad; rw [Nat.mod_mod]
theorem gy_next {M : List UInt8} {k : Nat} {bad : Bool} {i u k' : Nat} {bad' : Bool} {x k1 : Nat} {bad1 : Bool} (h : Gy M k bad i u k' bad') (hb : ∀ y, M[k']? = some y → x = y.toNat ∧ k1 = k' + 1 ∧ bad1 = bad') (hx : 128 ≤ x) : Gy M k bad (i + 1) (ad u i x) k1 bad1 := by
  intro y rest hy hm
  obtain ⟨g1, rfl, g3, g4, g5⟩ := h y rest hy hm
  by_cases hc : y / 128 ^ i < 128
  · rw [vb_lt hc] at g1
    obtain ⟨q1, q2⟩ := drop_cons g1
    obtain ⟨rfl, _, _⟩ := hb _ q1
    rw [tn (by omega)] at hx
    omega
  · rw [vb_ge hc] at g1 g4
    obtain ⟨q1, q2⟩ := drop_cons g1
    obtain ⟨rfl, rfl, rfl⟩ := hb _ q1
    have e : y / 128 ^ i / 128 = y / 128 ^ (i + 1) := by rw [Nat.div_div_eq_div_mul, Nat.pow_succ]
    rw [e] at q2 g4
    refine ⟨q2, ?_, g3, by rw [List.length_cons] at g4; omega, .inr ?_⟩
    · rw [tn (by omega), ← ad_mod, show (128 + y / 128 ^ i % 128) % 128 = y / 128 ^ i % 128 by omega]
      exact ad_step hy
    · rw [Nat.pow_succ, Nat.mul_comm]
      exact (Nat.le_div_iff_mul_le (Nat.pow_pos (by decide))).1 (by omega)
theorem gy_end {M : List UInt8} {k : Nat} {bad : Bool} {i u k' : Nat} {bad' : Bool} {x k1 : Nat} {bad1 : Bool} (h : Gy M k bad i u k' bad') (hb : ∀ y, M[k']? = some y → x = y.toNat ∧ k1 = k' + 1 ∧ bad1 = bad') (hx : x < 128) {y : Nat} {rest : List UInt8} (hy : y < 18446744073709551616) (hm : M.drop k = vb y ++ rest) : ad u i x = y ∧ k1 = k + (vb y).length ∧ bad1 = bad := by
  obtain ⟨g1, rfl, g3, g4, g5⟩ := h y rest hy hm
  by_cases hc : y / 128 ^ i < 128
  · rw [vb_lt hc] at g1 g4
    obtain ⟨q1, q2⟩ := drop_cons g1
    obtain ⟨rfl, rfl, rfl⟩ := hb _ q1
    refine ⟨?_, by rw [List.length_cons] at g4; simp at g4; omega, g3⟩
    rw [tn (by omega), ← Nat.mod_eq_of_lt hc, ad_step hy, Nat.mod_eq_of_lt]
    rw [Nat.pow_succ, Nat.mul_comm]
    exact (Nat.div_lt_iff_lt_mul (Nat.pow_pos (by decide))).1 hc
  · rw [vb_ge hc] at g1
    obtain ⟨q1, q2⟩ := drop_cons g1
    obtain ⟨rfl, _, _⟩ := hb _ q1
    rw [tn (by omega)] at hx
    omega
theorem gy_ten {M : List UInt8} {k : Nat} {bad : Bool} {u k' : Nat} {bad' : Bool} (h : Gy M k bad 10 u k' bad') {y : Nat} {rest : List UInt8} (hy : y < 18446744073709551616) (hm : M.drop k = vb y ++ rest) : False := by
  obtain ⟨g1, g2, g3, g4, g5⟩ := h y rest hy hm
  have : (18446744073709551616 : Nat) ≤ 128 ^ 10 := by decide
  omega

/-- bytes as numbers -/
def toI (l : List UInt8) : List Int := l.map (fun b => (b.toNat : Int))
theorem toI_app (a b : List UInt8) : toI (a ++ b) = toI a ++ toI b := by unfold toI; rw [List.map_append]
theorem toI_len (a : List UInt8) : (toI a).length = a.length := by unfold toI; rw [List.length_map]
theorem toI_inj : ∀ {a b : List UInt8}, toI a = toI b → a = b
  | [], [], _ => rfl
  | [], _ :: _, h => by simp [toI] at h
  | _ :: _, [], h => by simp [toI] at h
  | x :: a, y :: b, h => by
    have h' : (x.toNat : Int) = (y.toNat : Int) ∧ toI a = toI b := by simpa [toI] using h
    have e : x = y := UInt8.toNat_inj.1 (by have := h'.1; omega)
    rw [e, toI_inj h'.2]
theorem toI_vb : ∀ n : Nat, toI (vb n) = numb n := by
  intro n
  induction n using Nat.strongRecOn with
  | ind n ih =>
    by_cases h : n < 128
    · rw [vb_lt h, numb_lt (by omega)]
      show [((UInt8.ofNat n).toNat : Int)] = _
      rw [tn (by omega)]
    · rw [vb_ge h, numb_ge (by omega)]
      show ((UInt8.ofNat (128 + n % 128)).toNat : Int) :: toI (vb (n / 128)) = _
      rw [tn (by omega), ih (n / 128) (by omega)]
      congr 1
      omega
/-- the bytes of a word, the lowest first -/
def e8 (n : Nat) : Nat → List UInt8
  | 0 => []
  | k + 1 => e8 n k ++ [UInt8.ofNat (n / 256 ^ k)]
theorem toI_e8 (n : Nat) : ∀ k, toI (e8 n k) = eig n k
  | 0 => rfl
  | k + 1 => by
    show toI (e8 n k ++ [_]) = eig n k ++ [_]
    rw [toI_app, toI_e8 n k]
    show _ ++ [((UInt8.ofNat (n / 256 ^ k)).toNat : Int)] = _
    rw [UInt8.toNat_ofNat']
theorem e8_len (n : Nat) : ∀ k, (e8 n k).length = k
  | 0 => rfl
  | k + 1 => by show (e8 n k ++ [_]).length = _; rw [List.length_append, e8_len n k]; rfl
end Go.Proofs.Ytamcnmnaadpfoaa.Fo

namespace Go.Proofs.Ytamcnmnaadpfoaa.Fo
open Go.ChangeShapes Go.WideShapes Go.ChangeAt Go.RowKit
set_option linter.unusedVariables false
set_option maxRecDepth 100000
/-- the model's reader, in block b: the image M lies in another block, k bytes of it are read -/
structure RD (b : Nat) (a : Addr) (c : Nat) (M : List UInt8) (k : Nat) (bad : Bool) (W : World) : Prop where
  blk : W.heap[b]? = some (.cells #[.slice (some a) M.length c, .int .i64 (k : Int), .bool bad] 70 (0, 0))
  le : k ≤ 8200
  sz : M.length ≤ 8192
  cap : M.length ≤ c
  ne : a.block ≠ b
  row : ∀ i (x : UInt8), M[i]? = some x → W.cell? (a.add i) = some (.int .u8 (x.toNat : Int))
theorem RD.kz {b : Nat} {a : Addr} {c : Nat} {M : List UInt8} {k k' : Nat} {bad bad' : Bool} {W w' : World} (h : RD b a c M k bad W) (z : Kz b W w') (hb : w'.heap[b]? = some (.cells #[.slice (some a) M.length c, .int .i64 (k' : Int), .bool bad'] 70 (0, 0))) (hk : k' ≤ 8200) : RD b a c M k' bad' w' :=
  ⟨hb, hk, h.sz, h.cap, h.ne, fun i x hx => (World.cell?_of_block (by rw [add_block]; exact z.block _ h.ne)).trans (h.row i x hx)⟩
theorem Kz.trans {b : Nat} {W w1 w2 : World} (h : Kz b W w1) (k : Kz b w1 w2) : Kz b W w2 := ⟨k.os.trans h.os, k.output.trans h.output, k.size.trans h.size, fun i hi => (k.block i hi).trans (h.block i hi)⟩
theorem Kz.drewN {b : Nat} {W w1 : World} (h : Kz b W w1) (n : Nat) : Kz b W (w1.drewN n) := ⟨h.os, h.output, h.size, h.block⟩
/-- what a reading method leaves behind -/
def RP (b : Nat) (a : Addr) (c : Nat) (M : List UInt8) (k : Nat) (W : World) (Q : Value → Nat → Bool → Prop) (e : Ending) (w' : World) : Prop := ∃ v k' bad', e = .returned v ∧ RD b a c M k' bad' w' ∧ k ≤ k' ∧ Kz b W w' ∧ Q v k' bad'
set_option maxHeartbeats 4000000 in
theorem rd_byte {b : Nat} {a : Addr} {c : Nat} {M : List UInt8} {k : Nat} {bad : Bool} {W : World} (h : RD b a c M k bad W) :
    Calls Try.prog 69 #[.pointer (some ⟨b, 0, none⟩)] W (RP b a c M k W (fun v k' bad' => ∃ x : Nat, v = .int .u8 (x : Int) ∧ x < 256 ∧ (k' = k ∨ bad = true → bad' = true) ∧ ∀ y, M[k]? = some y → x = y.toNat ∧ k' = k + 1 ∧ bad' = bad)) := by
  have c0 : W.cell? ⟨b, 0, none⟩ = some (.slice (some a) M.length c) := cell_of h.blk rfl
  have c1 : W.cell? ⟨b, 1, none⟩ = some (.int .i64 (k : Int)) := cell_of h.blk rfl
  have c2 : W.cell? ⟨b, 2, none⟩ = some (.bool bad) := cell_of h.blk rfl
  have f1 : W.frozen? ⟨b, 1, none⟩ = false := frozen_of h.blk
  have f2 : W.frozen? ⟨b, 2, none⟩ = false := frozen_of h.blk
  have hle := h.le
  have hsz := h.sz
  have hcap := h.cap
  have hne := h.ne
  obtain ⟨n, hn⟩ : ∃ n, n = M.length := ⟨_, rfl⟩
  have HH : Hid (RD b a c M k bad W ∧ n = M.length) := (⟨h, hn⟩ : _ ∧ _)
  rw [← hn] at c0 hsz hcap
  by_cases hk : k < n
  · obtain ⟨x, hx⟩ : ∃ x, M[k]? = some x := ⟨_, List.getElem?_eq_getElem (by omega)⟩
    have hs : wrap64 ((k : Int) + 1 - 1) = (k : Int) := by unfold wrap64; omega
    have hr : ∀ v, (W.setCell ⟨b, 1, none⟩ v).cell? (a.add k) = some (.int .u8 (x.toNat : Int)) := fun v => (World.cell?_of_block (by rw [add_block]; exact Below.heap_setCell _ _ _ _ hne)).trans (h.row k x hx)
    have HX : Hid (M[k]? = some x) := hx
    have hxl : (x.toNat : Int) < 256 := by have := x.toNat_lt; omega
    have hg : ¬ (n : Int) ≤ (k : Int) := by omega
    have hkI : (k : Int) < (n : Int) := by omega
    have hnI : (n : Int) ≤ 1000000 := by omega
    have hB : ∀ (d : Nat), RD b a c M (k + 1) bad ((W.drewN d).setCell ⟨b, 1, none⟩ (.int .i64 ((k : Int) + 1))) ∧ Kz b W ((W.drewN d).setCell ⟨b, 1, none⟩ (.int .i64 ((k : Int) + 1))) := fun d => by
      have z : Kz b W ((W.drewN d).setCell ⟨b, 1, none⟩ (.int .i64 ((k : Int) + 1))) := ((Kz.refl b W).drewN d).set 1 _
      exact ⟨h.kz z (by have := set_known (W := W.drewN d) (j := 1) (.int .i64 ((k : Int) + 1)) h.blk; exact this) (by omega), z⟩
    have HB : Hid (∀ (d : Nat), _) := hB
    clear h hle hsz hn hx hk hB
    generalize hX : x.toNat = X at *
    have HXX : Hid (x.toNat = X) := hX
    clear hX
    go_enter Try.func69, Try.ntmps69
    go_wp2_with fail
    go_quiet (skip)
    go_wp2_with fail
    have hr2 := hr (Value.int IntKind.i64 (↑k + 1))

    obtain ⟨y1, y2⟩ := (show ∀ d : Nat, _ from HB) nq
    clear HB
    generalize hW : ((W.drewN nq).setCell { block := b, off := 1 } (Value.int IntKind.i64 (↑k + 1))) = W2 at *
    obtain ⟨hn, d0, d1⟩ : n = M.length ∧ W2.cell? ⟨b, 0, none⟩ = some (.slice (some a) M.length c) ∧ W2.cell? ⟨b, 1, none⟩ = some (.int .i64 ((k + 1 : Nat) : Int)) := ⟨HH.2, cell_of y1.blk rfl, cell_of y1.blk rfl⟩
    rw [← hn] at d0
    rw [show ((k + 1 : Nat) : Int) = (k : Int) + 1 from rfl] at d1
    have d2 : W2.cell? (a.add k) = some (.int .u8 (X : Int)) := by rw [← hW]; exact hr2
    have HY : Hid (RD b a c M (k + 1) bad W2 ∧ Kz b W W2) := (⟨y1, y2⟩ : _ ∧ _)
    clear hr hr2 hW y1 y2 hn
    go_quiet (skip)
    go_wp2_with fail
    go_ret
    obtain ⟨y1, y2⟩ := (show _ ∧ _ from HY)

    exact ⟨_, k + 1, bad, rfl, ⟨y1.blk, y1.le, y1.sz, y1.cap, y1.ne, y1.row⟩, by omega, y2.drewN _, X, rfl, by omega, fun e => e.elim (fun e => by omega) id, fun y hy => ⟨by have := HX; have h2 := HXX; rw [show M[k]? = some x from HX] at hy; injection hy with hy; rw [← hy]; exact h2.symm, rfl, rfl⟩⟩
  · have hg : (n : Int) ≤ (k : Int) := by omega
    have hnI : (n : Int) ≤ 1000000 := by omega
    have hB : ∀ (d : Nat), RD b a c M k true ((W.drewN d).setCell ⟨b, 2, none⟩ (.bool true)) ∧ Kz b W ((W.drewN d).setCell ⟨b, 2, none⟩ (.bool true)) := fun d => by
      have z : Kz b W ((W.drewN d).setCell ⟨b, 2, none⟩ (.bool true)) := ((Kz.refl b W).drewN d).set 2 _
      exact ⟨h.kz z (by have := set_known (W := W.drewN d) (j := 2) (.bool true) h.blk; exact this) (by omega), z⟩
    have HB : Hid (∀ (d : Nat), _) := hB
    have HN : Hid (∀ y, M[k]? = some y → False) := (fun y hy => by have := (List.getElem?_eq_some_iff.1 hy).1; omega : ∀ y, M[k]? = some y → False)
    clear h hle hsz hn hk hB
    go_enter Try.func69, Try.ntmps69
    go_wp2_with fail
    go_quiet (skip)
    go_wp2_with fail
    go_ret

    obtain ⟨y1, y2⟩ := (show ∀ d : Nat, _ from HB) nq
    exact ⟨_, k, true, rfl, y1, Nat.le_refl _, y2, 0, rfl, by omega, fun _ => rfl, fun y hy => ((show ∀ y, _ → False from HN) y hy).elim⟩
end Go.Proofs.Ytamcnmnaadpfoaa.Fo

namespace Go.Proofs.Ytamcnmnaadpfoaa.Fo
open Go.ChangeShapes Go.WideShapes Go.ChangeAt Go.RowKit
set_option linter.unusedVariables false
set_option maxRecDepth 100000
theorem and_u8 (x : Nat) (h : x < 256) : bits .and .u8 (x : Int) 127 = ((x % 128 : Nat) : Int) := by
  have h1 : ∀ b : Fin 256, bits .and .u8 (b.val : Int) 127 = ((b.val % 128 : Nat) : Int) := by decide +kernel
  exact h1 ⟨x, h⟩
theorem ad_bits8 {u : Nat} (i x : Nat) (h : u < 18446744073709551616) (hx : x < 256) : bits BinOp.or IntKind.u64 (u : Int) (IntKind.u64.wrap (IntKind.u64.wrap (bits BinOp.and IntKind.u8 (x : Int) 127) * 2 ^ (7 * i))) = (ad u i x : Int) := by
  have e : IntKind.u64.wrap (IntKind.u64.wrap (bits BinOp.and IntKind.u8 (x : Int) 127) * 2 ^ (7 * i)) = ((x % 128 * 2 ^ (7 * i) % 18446744073709551616 : Nat) : Int) := by
    rw [and_u8 x hx, wrap_u64, wrap_u64]
    rw [show ((x % 128 : Nat) : Int) % 18446744073709551616 = ((x % 128 : Nat) : Int) by omega]
    generalize x % 128 = r
    rw [Int.natCast_emod, Int.natCast_mul, Int.natCast_pow]
    rfl
  rw [e, Go.u64_or_nat _ _ h (Nat.mod_lt _ (by decide))]
  rfl
set_option maxHeartbeats 4000000 in
theorem rd_num {b : Nat} {a : Addr} {c : Nat} {M : List UInt8} {k : Nat} {bad : Bool} {W : World} (h : RD b a c M k bad W) :
    Calls Try.prog 68 #[.pointer (some ⟨b, 0, none⟩)] W (RP b a c M k W (fun v k' bad' => ∃ x : Nat, v = .int .u64 (x : Int) ∧ x < 18446744073709551616 ∧ (k' = k ∨ bad = true → bad' = true) ∧ ∀ (y : Nat) rest, y < 18446744073709551616 → M.drop k = vb y ++ rest → x = y ∧ k' = k + (vb y).length ∧ bad' = bad)) := by
  have HH : Hid (RD b a c M k bad W) := h
  clear h
  go_enter Try.func68, Try.ntmps68
  go_wp2_with fail
  go_loopw [3, 4] (fun s3 s4 wr => ∃ (u i k' : Nat) (bad' : Bool), s3 = .int .u64 (u : Int) ∧ s4 = .int .i64 (i : Int) ∧ i ≤ 10 ∧ (u : Int) < 18446744073709551616 ∧ Hid (RD b a c M k' bad' wr ∧ Kz b W wr ∧ k ≤ k' ∧ ((k' = k → i = 0 ∨ bad' = true) ∧ (bad = true → bad' = true)) ∧ Gy M k bad i u k' bad')) (fun _ s4 _ => 10 - (intOf s4).toNat)
  case atStart =>
    refine ⟨0, 0, k, bad, rfl, rfl, by omega, by omega, (⟨HH, Kz.refl _ _, Nat.le_refl _, ⟨fun _ => .inl rfl, id⟩, fun y rest hy hm => ⟨?_, ?_, rfl, ?_, .inl rfl⟩⟩ : _ ∧ _)⟩
    · rw [Nat.pow_zero, Nat.div_one]; exact hm
    · rw [Nat.pow_zero, Nat.mod_one]
    · rw [Nat.pow_zero, Nat.div_one]
  case round =>
    obtain ⟨u, i, k', bad', rfl, rfl, hi, hu, HX⟩ := hrel
    rcases Nat.lt_or_ge i 10 with hi2 | hi2
    · have hiI : (i : Int) < 10 := by omega
      have HB := rd_byte (show _ ∧ _ from HX).1
      go_upto_region 6 with (go_at_call 69; refine HB.mono ?_; rintro e w1 ⟨v1, k1, bad1, rfl, y1, y2, y3, x, rfl, y4, y5, y6⟩)
      obtain ⟨x1, x2, x3, x4, x5⟩ := (show _ ∧ _ ∧ _ ∧ _ ∧ _ from HX)
      have hU := ad_bits8 i x (u := u) (by omega) y4
      have hUl := ad_lt (u := u) i x (by omega)
      have HG : Hid (Gy M k bad i u k' bad' ∧ ∀ y, M[k']? = some y → x = y.toNat ∧ k1 = k' + 1 ∧ bad1 = bad') := (⟨x5, y6⟩ : _ ∧ _)
      have HR : Hid (RD b a c M k1 bad1 w1 ∧ Kz b W w1 ∧ k ≤ k1 ∧ (k1 = k ∨ bad = true → bad1 = true)) := (⟨y1, x2.trans y3, Nat.le_trans x3 y2, fun e => y5 (e.elim (fun e => .inl (by omega)) (fun e => .inr (x4.2 e)))⟩ : _ ∧ _)
      clear HB HX x1 x2 x3 x4 x5 y1 y2 y3 y5 y6
      go_upto_region 7 with fail

      have hxI : (x : Int) < 256 := by omega
      have HUL : Hid (ad u i x < 18446744073709551616) := hUl
      have hiw : (i : Int) + 1 ≤ 10 := by omega
      by_cases hx : (x : Int) < 128
      · have HQ : Hid (∀ (y : Nat) rest, y < 18446744073709551616 → M.drop k = vb y ++ rest → ad u i x = y ∧ k1 = k + (vb y).length ∧ bad1 = bad) := (fun y rest h0 hm => gy_end (show _ ∧ _ from HG).1 (show _ ∧ _ from HG).2 (by omega) h0 hm : ∀ y : Nat, _)
        clear HG hU hUl
        generalize ad u i x = U at *
        go_wp2_with fail
        go_ret
        obtain ⟨q1, q2, q3, q4⟩ := (show _ ∧ _ ∧ _ ∧ _ from HR)
        exact ⟨_, k1, bad1, rfl, q1, q3, q2, U, rfl, HUL, q4, HQ⟩
      · have HG2 : Hid (Gy M k bad (i + 1) (ad u i x) k1 bad1) := gy_next (show _ ∧ _ from HG).1 (show _ ∧ _ from HG).2 (by omega)
        clear HG hU hUl
        generalize ad u i x = U at *
        go_wp2_with fail
        go_roundw
        case rel =>
          obtain ⟨q1, q2, q3, q4⟩ := (show _ ∧ _ ∧ _ ∧ _ from HR)
          exact ⟨U, i + 1, k1, bad1, rfl, by go_num, by omega, by have := (show U < _ from HUL); omega, (⟨q1, q2, q3, ⟨fun e => .inr (q4 (.inl e)), fun e => q4 (.inr e)⟩, HG2⟩ : _ ∧ _)⟩
        case measure => simp [intOf]; omega
    · obtain rfl : i = 10 := by omega
      obtain ⟨x1, x2, x3, x4, x5⟩ := (show RD b a c M k' bad' wr ∧ Kz b W wr ∧ k ≤ k' ∧ ((k' = k → 10 = 0 ∨ bad' = true) ∧ (bad = true → bad' = true)) ∧ Gy M k bad 10 u k' bad' from HX)
      have c2 : wr.cell? ⟨b, 2, none⟩ = some (.bool bad') := cell_of x1.blk rfl
      have f2 : wr.frozen? ⟨b, 2, none⟩ = false := frozen_of x1.blk
      have z : Kz b wr (wr.setCell ⟨b, 2, none⟩ (.bool true)) := (Kz.refl b wr).set 2 _
      have HE : Hid (RD b a c M k' true (wr.setCell ⟨b, 2, none⟩ (.bool true)) ∧ Kz b W (wr.setCell ⟨b, 2, none⟩ (.bool true)) ∧ k ≤ k' ∧ ∀ (y : Nat) rest, y < 18446744073709551616 → M.drop k = vb y ++ rest → False) := (⟨x1.kz z (by have := set_known (W := wr) (j := 2) (.bool true) x1.blk; exact this) x1.le, x2.trans z, x3, fun y rest hy hm => gy_ten x5 hy hm⟩ : _ ∧ _)
      clear HX x1 x2 x3 x4 x5 z hi hi2
      go_wp2_with fail
      go_ret
      obtain ⟨q1, q2, q3, q4⟩ := (show _ ∧ _ ∧ _ ∧ _ from HE)
      exact ⟨_, k', true, rfl, q1, q3, q2, 0, rfl, by omega, fun _ => rfl, fun y rest hy hm => (q4 y rest hy hm).elim⟩
end Go.Proofs.Ytamcnmnaadpfoaa.Fo

namespace Go.Proofs.Ytamcnmnaadpfoaa.Fo
open Go.ChangeShapes Go.WideShapes Go.ChangeAt Go.RowKit
set_option linter.unusedVariables false
set_option maxRecDepth 100000
set_option maxHeartbeats 4000000 in
theorem rd_small {b : Nat} {a : Addr} {c : Nat} {M : List UInt8} {k : Nat} {bad : Bool} {W : World} (h : RD b a c M k bad W) :
    Calls Try.prog 36 #[.pointer (some ⟨b, 0, none⟩)] W (RP b a c M k W (fun v k' bad' => ∃ x : Nat, v = .int .i64 (x : Int) ∧ x ≤ 5000 ∧ (k' = k ∨ bad = true → bad' = true) ∧ ∀ (y : Nat) rest, y ≤ 5000 → M.drop k = vb y ++ rest → x = y ∧ k' = k + (vb y).length ∧ bad' = bad)) := by
  have HB := rd_num h
  clear h
  go_enter Try.func36, Try.ntmps36
  go_upto_region 2 with (go_at_call 68; refine HB.mono ?_; rintro e w1 ⟨v1, k1, bad1, rfl, y1, y2, y3, x, rfl, y4, y5, y6⟩)
  clear HB
  by_cases hx : x ≤ 5000
  · have hxI : ¬ (5000 : Int) < (x : Int) := by omega
    have hcv : wrap64 (x : Int) = (x : Int) := by unfold wrap64; omega
    have HE : Hid (RD b a c M k1 bad1 w1 ∧ Kz b W w1 ∧ k ≤ k1 ∧ (k1 = k ∨ bad = true → bad1 = true) ∧ x ≤ 5000 ∧ ∀ (y : Nat) rest, y ≤ 5000 → M.drop k = vb y ++ rest → x = y ∧ k1 = k + (vb y).length ∧ bad1 = bad) := (⟨y1, y3, y2, y5, hx, fun y rest hy hm => y6 y rest (by omega) hm⟩ : _ ∧ _)
    clear y1 y2 y3 y4 y5 y6 hx
    go_wp2_with fail
    go_ret
    obtain ⟨q1, q2, q3, q4, q5, q6⟩ := (show _ ∧ _ ∧ _ ∧ _ ∧ _ ∧ _ from HE)
    exact ⟨_, k1, bad1, by first | rfl | (rw [← hcv]; rfl), q1, q3, q2, x, rfl, q5, q4, q6⟩
  · have hxI : (5000 : Int) < (x : Int) := by omega
    have c2 : w1.cell? ⟨b, 2, none⟩ = some (.bool bad1) := cell_of y1.blk rfl
    have f2 : w1.frozen? ⟨b, 2, none⟩ = false := frozen_of y1.blk
    have z : Kz b w1 (w1.setCell ⟨b, 2, none⟩ (.bool true)) := (Kz.refl b w1).set 2 _
    have HE : Hid (RD b a c M k1 true (w1.setCell ⟨b, 2, none⟩ (.bool true)) ∧ Kz b W (w1.setCell ⟨b, 2, none⟩ (.bool true)) ∧ k ≤ k1 ∧ ∀ (y : Nat) rest, y ≤ 5000 → M.drop k = vb y ++ rest → False) := (⟨y1.kz z (by have := set_known (W := w1) (j := 2) (.bool true) y1.blk; exact this) y1.le, y3.trans z, y2, fun y rest hy hm => by have := (y6 y rest (by omega) hm).1; omega⟩ : _ ∧ _)
    clear y1 y2 y3 y4 y5 y6 hx z
    go_wp2_with fail
    go_ret
    obtain ⟨q1, q2, q3, q4⟩ := (show _ ∧ _ ∧ _ ∧ _ from HE)
    exact ⟨_, k1, true, rfl, q1, q3, q2, 0, rfl, by omega, fun _ => rfl, fun y rest hy hm => (q4 y rest hy hm).elim⟩
/-- how far the eight bytes of y have come -/
def Ey (M : List UInt8) (k : Nat) (bad : Bool) (i u k' : Nat) (bad' : Bool) : Prop := ∀ (y : Nat) rest, y < 18446744073709551616 → M.drop k = e8 y 8 ++ rest → k' = k + i ∧ u = y % 256 ^ i ∧ bad' = bad
def ae (u i x : Nat) : Nat := u ||| (x * 2 ^ (8 * i) % 18446744073709551616)
theorem ae_lt {u : Nat} (i x : Nat) (h : u < 18446744073709551616) : ae u i x < 18446744073709551616 := Nat.or_lt_two_pow (n := 64) h (Nat.mod_lt _ (by decide))
theorem ae_bits {u : Nat} (i x : Nat) (h : u < 18446744073709551616) (hx : x < 256) : bits BinOp.or IntKind.u64 (u : Int) (IntKind.u64.wrap ((x : Int) * 2 ^ (8 * i))) = (ae u i x : Int) := by
  have e : IntKind.u64.wrap ((x : Int) * 2 ^ (8 * i)) = ((x * 2 ^ (8 * i) % 18446744073709551616 : Nat) : Int) := by
    rw [wrap_u64]
    rw [Int.natCast_emod, Int.natCast_mul, Int.natCast_pow]
    rfl
  rw [e, Go.u64_or_nat _ _ h (Nat.mod_lt _ (by decide))]
  rfl
theorem p256 (i : Nat) : 256 ^ i = 2 ^ (8 * i) := by rw [Nat.pow_mul]
theorem e8_at (y : Nat) {i : Nat} : ∀ {n}, i < n → (e8 y n)[i]? = some (UInt8.ofNat (y / 256 ^ i))
  | 0, h => by omega
  | n + 1, h => by
    show (e8 y n ++ [_])[i]? = _
    by_cases e : i = n
    · subst e
      rw [List.getElem?_append_right (by rw [e8_len]; exact Nat.le_refl _), e8_len]
      simp
    · rw [List.getElem?_append_left (by rw [e8_len]; omega)]
      exact e8_at y (by omega)
theorem ae_step {y i : Nat} (hy : y < 18446744073709551616) : ae (y % 256 ^ i) i (y / 256 ^ i % 256) = y % 256 ^ (i + 1) := by
  have e : y % 256 ^ (i + 1) = 2 ^ (8 * i) * (y / 256 ^ i % 256) + y % 256 ^ i := by rw [Nat.pow_succ, Nat.mod_mul, Nat.add_comm, p256]
  have hle : y % 256 ^ (i + 1) ≤ y := Nat.mod_le _ _
  unfold ae
  rw [Nat.mul_comm, Nat.mod_eq_of_lt (a := 2 ^ (8 * i) * _) (by omega), e, Nat.or_comm]
  exact (Nat.two_pow_add_eq_or_of_lt (by rw [← p256]; exact Nat.mod_lt _ (Nat.pow_pos (by decide))) _).symm
theorem ey_next {M : List UInt8} {k : Nat} {bad : Bool} {i u k' : Nat} {bad' : Bool} {x k1 : Nat} {bad1 : Bool} (hi : i < 8) (h : Ey M k bad i u k' bad') (hb : ∀ y, M[k']? = some y → x = y.toNat ∧ k1 = k' + 1 ∧ bad1 = bad') : Ey M k bad (i + 1) (ae u i x) k1 bad1 := by
  intro y rest hy hm
  obtain ⟨rfl, rfl, rfl⟩ := h y rest hy hm
  have q : M[k + i]? = some (UInt8.ofNat (y / 256 ^ i)) := by
    have := congrArg (fun l => l[i]?) hm
    rw [List.getElem?_drop, List.getElem?_append_left (by rw [e8_len]; exact hi), e8_at y hi] at this
    exact this
  obtain ⟨rfl, rfl, rfl⟩ := hb _ q
  refine ⟨by omega, ?_, rfl⟩
  rw [UInt8.toNat_ofNat']
  exact ae_step hy
set_option maxHeartbeats 4000000 in
theorem rd_eight {b : Nat} {a : Addr} {c : Nat} {M : List UInt8} {k : Nat} {bad : Bool} {W : World} (h : RD b a c M k bad W) :
    Calls Try.prog 70 #[.pointer (some ⟨b, 0, none⟩)] W (RP b a c M k W (fun v k' bad' => ∃ x : Nat, v = .int .u64 (x : Int) ∧ x < 18446744073709551616 ∧ (bad = true → bad' = true) ∧ ∀ (y : Nat) rest, y < 18446744073709551616 → M.drop k = e8 y 8 ++ rest → x = y ∧ k' = k + 8 ∧ bad' = bad)) := by
  have HH : Hid (RD b a c M k bad W) := h
  clear h
  go_enter Try.func70, Try.ntmps70
  go_wp2_with fail
  go_loopw [3, 4] (fun s3 s4 wr => ∃ (u i k' : Nat) (bad' : Bool), s3 = .int .u64 (u : Int) ∧ s4 = .int .i64 (i : Int) ∧ i ≤ 8 ∧ (u : Int) < 18446744073709551616 ∧ Hid (RD b a c M k' bad' wr ∧ Kz b W wr ∧ k ≤ k' ∧ (bad = true → bad' = true) ∧ Ey M k bad i u k' bad')) (fun _ s4 _ => 8 - (intOf s4).toNat)
  case atStart =>
    exact ⟨0, 0, k, bad, rfl, rfl, by omega, by omega, (⟨HH, Kz.refl _ _, Nat.le_refl _, id, fun y rest hy hm => ⟨rfl, by rw [Nat.pow_zero, Nat.mod_one], rfl⟩⟩ : _ ∧ _)⟩
  case round =>
    obtain ⟨u, i, k', bad', rfl, rfl, hi, hu, HX⟩ := hrel
    rcases Nat.lt_or_ge i 8 with hi2 | hi2
    · have hiI : (i : Int) < 8 := by omega
      have HB := rd_byte (show _ ∧ _ from HX).1
      obtain ⟨x1, x2, x3, x4, x5⟩ := (show _ ∧ _ ∧ _ ∧ _ ∧ _ from HX)
      have HX5 : Hid (Kz b W wr ∧ k ≤ k' ∧ (bad = true → bad' = true) ∧ Ey M k bad i u k' bad') := (⟨x2, x3, x4, x5⟩ : _ ∧ _)
      clear x1 x2 x3 x4 x5 HX
      go_wp2_with fail
      refine HB.mono ?_
      rintro e w1 ⟨v1, k1, bad1, rfl, y1, y2, y3, x, rfl, y4, y5, y6⟩
      obtain ⟨x2, x3, x4, x5⟩ := (show Kz b W wr ∧ k ≤ k' ∧ (bad = true → bad' = true) ∧ Ey M k bad i u k' bad' from HX5)
      have hU := ae_bits i x (u := u) (by omega) y4
      have hUl := ae_lt (u := u) i x (by omega)
      have hxI : (x : Int) < 256 := by omega
      have HR : Hid (RD b a c M k1 bad1 w1 ∧ Kz b W w1 ∧ k ≤ k1 ∧ (bad = true → bad1 = true) ∧ Ey M k bad (i + 1) (ae u i x) k1 bad1) := (⟨y1, x2.trans y3, Nat.le_trans x3 y2, fun e => y5 (.inr (x4 e)), ey_next hi2 x5 y6⟩ : _ ∧ _)
      have HUL : Hid (ae u i x < 18446744073709551616) := hUl
      clear HB HX5 x2 x3 x4 x5 y1 y2 y3 y5 y6 hUl
      obtain ⟨U, hUU⟩ : ∃ U, U = ae u i x := ⟨_, rfl⟩
      rw [← hUU] at hU HR HUL
      clear hUU
      go_wp2_with fail
      go_roundw
      case rel => exact ⟨U, i + 1, k1, bad1, by first | rfl | exact congrArg (Value.int .u64) hU, by go_num, by omega, by have := (show U < _ from HUL); omega, HR⟩
      case measure => simp [intOf]; omega
    · obtain rfl : i = 8 := by omega
      obtain ⟨x1, x2, x3, x4, x5⟩ := (show RD b a c M k' bad' wr ∧ Kz b W wr ∧ k ≤ k' ∧ (bad = true → bad' = true) ∧ Ey M k bad 8 u k' bad' from HX)
      have HE : Hid (∀ (y : Nat) rest, y < 18446744073709551616 → M.drop k = e8 y 8 ++ rest → u = y ∧ k' = k + 8 ∧ bad' = bad) := (fun y rest hy hm => by
        obtain ⟨q1, q2, q3⟩ := x5 y rest hy hm
        exact ⟨by rw [q2, Nat.mod_eq_of_lt (by omega)], q1, q3⟩ : ∀ y : Nat, _)
      clear x1 x2 x3 x4 x5 hi hi2
      go_wp2_with fail
      go_ret
      obtain ⟨q1, q2, q3, q4, q5⟩ := (show _ ∧ _ ∧ _ ∧ _ ∧ _ from HX)
      exact ⟨_, k', bad', rfl, q1, q3, q2, u, rfl, by omega, q4, HE⟩
end Go.Proofs.Ytamcnmnaadpfoaa.Fo
