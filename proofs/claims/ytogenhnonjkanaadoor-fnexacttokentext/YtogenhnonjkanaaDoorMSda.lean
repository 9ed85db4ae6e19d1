import Derived.Test.YtogenhnonjkanaaDoorMSae
namespace Go.Proofs.YtogenhnonjkanaaDoor
open Go.ChangeShapes Go.WideShapes Go.ChangeAt Go.RowKit
set_option linter.unusedVariables false
theorem lk_iff {L : List UInt8} {k : Nat} {c : UInt8} (hc : c ≠ 0) : lk L k = c ↔ L[k]? = some c := by
  constructor
  · intro h
    rcases Nat.lt_or_ge k L.length with g | g
    · have := List.getElem?_eq_getElem g
      rw [lk_some this] at h
      rw [this, h]
    · rw [lk_none g] at h
      exact absurd h.symm hc
  · exact lk_some
theorem lk_at {L : List UInt8} {k : Nat} (h : k < L.length) : L[k]? = some (lk L k) := by
  have := List.getElem?_eq_getElem h
  rw [lk_some this]; exact this
theorem lk_lt {L : List UInt8} {k : Nat} {c : UInt8} (hc : c ≠ 0) (h : lk L k = c) : k < L.length := (List.getElem?_eq_some_iff.1 ((lk_iff hc).1 h)).1
theorem isD_zero : isD 0 = false := by decide
theorem isD_lt {L : List UInt8} {k : Nat} (h : isD (lk L k) = true) : k < L.length := by
  rcases Nat.lt_or_ge k L.length with g | g
  · exact g
  · rw [lk_none g, isD_zero] at h; cases h
theorem en_at {p : UInt8 → Bool} (hz : p 0 = false) {L : List UInt8} {k : Nat} (h : p (lk L k) = true) : en p L k = en p L (k + 1) ∧ k < L.length := by
  have hk : k < L.length := by
    rcases Nat.lt_or_ge k L.length with g | g
    · exact g
    · rw [lk_none g, hz] at h; cases h
  exact ⟨en_step (lk_at hk) h, hk⟩
theorem en_no {p : UInt8 → Bool} {L : List UInt8} {k : Nat} (h : p (lk L k) = false) : en p L k = k := by
  rcases Nat.lt_or_ge k L.length with g | g
  · exact en_stop (lk_at g) h
  · exact en_end g
/-- behind a sign, if one stands there -/
def sgn (L : List UInt8) (k : Nat) : Nat := if lk L k = 45 ∨ lk L k = 43 then k + 1 else k
theorem sgn_le {L : List UInt8} {k : Nat} (h : k ≤ L.length) : k ≤ sgn L k ∧ sgn L k ≤ L.length := by
  unfold sgn
  split
  · rename_i g
    have : k < L.length := by
      rcases g with g | g
      · exact lk_lt (by decide) g
      · exact lk_lt (by decide) g
    omega
  · omega
/-- a fraction begins here -/
def frc (L : List UInt8) (k : Nat) : Bool := lk L k == 46 && isD (lk L (k + 1))
/-- behind the whole part; behind a fraction, if one begins there -/
def q1 (L : List UInt8) (p : Nat) : Nat := if lk L p = 48 then p + 1 else en isD L (p + 1)
def q2 (L : List UInt8) (a : Nat) : Nat := if frc L a = true then en isD L (a + 1) else a
theorem q1_le {L : List UInt8} {p : Nat} (h : p < L.length) : p < q1 L p ∧ q1 L p ≤ L.length := by
  unfold q1
  split
  · omega
  · have := en_ge isD L (p + 1)
    have := en_le isD L (p + 1) h
    omega
theorem q2_le {L : List UInt8} {a : Nat} (h : a ≤ L.length) : a ≤ q2 L a ∧ q2 L a ≤ L.length := by
  unfold q2
  split
  · rename_i g
    have : a < L.length := by
      unfold frc at g
      simp at g
      exact lk_lt (by decide) g.1
    have h2 := en_ge isD L (a + 1)
    have := en_le isD L (a + 1) this
    omega
  · omega
/-- the parts of a number that does not begin with 0x: where it ends; or where it cannot go on -/
inductive Nb (L : List UInt8) (p : Nat) : Bool → Bool → Nat → Prop
  | plain : frc L (q1 L p) = false → lk L (q1 L p) ≠ 101 → Nb L p false true (q1 L p)
  | frac : frc L (q1 L p) = true → lk L (q2 L (q1 L p)) ≠ 101 → Nb L p false false (q2 L (q1 L p))
  | bad : lk L (q2 L (q1 L p)) = 101 → isD (lk L (sgn L (q2 L (q1 L p) + 1))) = false → Nb L p true false (sgn L (q2 L (q1 L p) + 1))
  | exp : lk L (q2 L (q1 L p)) = 101 → isD (lk L (sgn L (q2 L (q1 L p) + 1))) = true → Nb L p false false (en isD L (sgn L (q2 L (q1 L p) + 1)))
theorem nb_any (L : List UInt8) (p : Nat) : ∃ b c to, Nb L p b c to := by
  by_cases h : lk L (q2 L (q1 L p)) = 101
  · cases g : isD (lk L (sgn L (q2 L (q1 L p) + 1))) with
    | true => exact ⟨_, _, _, .exp h g⟩
    | false => exact ⟨_, _, _, .bad h g⟩
  · cases g : frc L (q1 L p) with
    | true => exact ⟨_, _, _, .frac g h⟩
    | false => exact ⟨_, _, _, .plain g (by unfold q2 at h; rw [g, if_neg (by decide)] at h; exact h)⟩
theorem Nb.le {L : List UInt8} {p : Nat} {b c : Bool} {to : Nat} (h : Nb L p b c to) (hp : p < L.length) : p < to ∧ to ≤ L.length := by
  have h1 := q1_le hp
  have h2 := q2_le (L := L) h1.2
  cases h with
  | plain => exact h1
  | frac => omega
  | bad g _ =>
    have := lk_lt (by decide) g
    have := sgn_le (L := L) (k := q2 L (q1 L p) + 1) this
    omega
  | exp g _ =>
    have := lk_lt (by decide) g
    have := sgn_le (L := L) (k := q2 L (q1 L p) + 1) this
    have h4 := en_le isD L _ this.2
    have h5 := en_ge isD L (sgn L (q2 L (q1 L p) + 1))
    omega
/-- the model's way to a number below 2^63 -/
def nm : Nat → List UInt8 → Option Nat
  | acc, [] => some acc
  | acc, c :: r => if 922337203685477580 < acc ∨ (acc = 922337203685477580 ∧ 55 < c.toNat) then none else nm (acc * 10 + (c.toNat - 48)) r
def dg (L : List UInt8) (p to : Nat) : List UInt8 := (L.drop p).take (to - p)
theorem dg_step {L : List UInt8} {i to : Nat} {x : UInt8} (h : L[i]? = some x) (hi : i < to) : dg L i to = x :: dg L (i + 1) to := by
  unfold dg
  rw [drop_cons h, show to - i = (to - (i + 1)) + 1 by omega, List.take_succ_cons]
theorem dg_end (L : List UInt8) (i : Nat) : dg L i i = [] := by unfold dg; simp
/-- what a number that does not begin with 0x is as a token -/
inductive Num (T : ByteArray) (L : List UInt8) (p : Nat) : Int → Nat → Int → ByteArray → Prop
  | bad (to : Nat) : Nb L p true false to → Num T L p 0 to 0 ⟨#[]⟩
  | flt (to : Nat) : Nb L p false false to → Num T L p 3 to 0 (T.extract p to)
  | int (to v : Nat) : Nb L p false true to → nm 0 (dg L p to) = some v → Num T L p 2 to (v : Int) ⟨#[]⟩
  | big (to : Nat) : Nb L p false true to → nm 0 (dg L p to) = none → Num T L p 3 to 0 (T.extract p to)
theorem num_any (T : ByteArray) (L : List UInt8) (p : Nat) : ∃ k to n x, Num T L p k to n x := by
  obtain ⟨b, c, to, h⟩ := nb_any L p
  cases b with
  | true =>
    cases c with
    | true => cases h
    | false => exact ⟨_, _, _, _, .bad to h⟩
  | false =>
    cases c with
    | false => exact ⟨_, _, _, _, .flt to h⟩
    | true =>
      cases g : nm 0 (dg L p to) with
      | none => exact ⟨_, _, _, _, .big to h g⟩
      | some v => exact ⟨_, _, _, _, .int to v h g⟩
theorem nm_lt : ∀ (D : List UInt8) (acc v : Nat), acc < 9223372036854775808 → (∀ c ∈ D, isD c = true) → nm acc D = some v → acc * 10 ^ D.length ≤ v ∧ v < 9223372036854775808
  | [], acc, v, h, _, e => by simp [nm] at e; subst e; simp; exact h
  | c :: r, acc, v, h, hd, e => by
    unfold nm at e
    split at e
    · cases e
    · rename_i g
      have hc := hd c (List.mem_cons_self ..)
      unfold isD at hc
      simp at hc
      have hacc : acc * 10 + (c.toNat - 48) < 9223372036854775808 := by omega
      obtain ⟨h1, h2⟩ := nm_lt r _ v hacc (fun x hx => hd x (List.mem_cons_of_mem _ hx)) e
      refine ⟨?_, h2⟩
      rw [List.length_cons, Nat.pow_succ, Nat.mul_comm (10 ^ r.length) 10, ← Nat.mul_assoc]
      exact Nat.le_trans (Nat.mul_le_mul_right _ (Nat.le_add_right _ _)) h1
theorem Nb.digits {L : List UInt8} {p : Nat} {to : Nat} (h : Nb L p false true to) (hd : isD (lk L p) = true) : ∀ i, p ≤ i → i < to → isD (lk L i) = true := by
  intro i h1 h2
  cases h with
  | plain g1 g2 =>
    unfold q1 at h2
    split at h2
    · obtain rfl : i = p := by omega
      exact hd
    · by_cases e : i = p
      · subst e; exact hd
      · obtain ⟨x, hx, hp⟩ := en_mid (p := isD) (L := L) (en isD L (p + 1) - (p + 1)) (p + 1) i (by have := en_ge isD L (p + 1); omega) (by omega) (by omega)
        rw [lk_some hx]; exact hp
/-- what the model's last loop and its end make of a number -/
inductive Fin10 (T : ByteArray) (L : List UInt8) (p to : Nat) : Int → Int → Int → ByteArray → Prop
  | flt : Fin10 T L p to 3 3 0 (T.extract p to)
  | int (v : Nat) : (∀ i, p ≤ i → i < to → isD (lk L i) = true) → nm 0 (dg L p to) = some v → Fin10 T L p to 2 2 (v : Int) ⟨#[]⟩
  | big : (∀ i, p ≤ i → i < to → isD (lk L i) = true) → nm 0 (dg L p to) = none → Fin10 T L p to 2 3 0 (T.extract p to)
theorem digit_nat {x : UInt8} (h : isD x = true) : 48 ≤ x.toNat ∧ x.toNat ≤ 57 := by unfold isD at h; simpa using h
/-- the model's token and its answer, in their blocks -/
structure Ts (w : World) (k f t n : Int) (x : ByteArray) (W : World) : Prop where
  bel : Below w.heap.size w W
  tb : W.heap[w.heap.size]? = some (.cells #[.int .i64 k, .int .i64 f, .int .i64 t, .int .i64 0, .int .i64 n, .string x] 33 (0, 0))
  rz : Rz (w.heap.size + 1) W
section
variable {w W : World} {k f t n : Int} {x : ByteArray}
theorem Ts.start (w : World) (k f t n : Int) (x : ByteArray) : Ts w k f t n x ((w.alloc (.cells #[.int .i64 k, .int .i64 f, .int .i64 t, .int .i64 0, .int .i64 n, .string x] 33)).alloc (.cells #[.int .i64 0, .int .i64 0, .int .i64 0, .int .i64 0, .int .i64 0, .string ⟨#[]⟩] 33)) := by
  refine ⟨((Below.refl _ w).alloc (Nat.le_refl _) _).alloc (by simp) _, ?_, ?_⟩
  · rw [Below.heap_alloc _ _ _ (by simp)]; show (w.heap.push _)[w.heap.size]? = _; simp
  · unfold Rz
    show ((w.heap.push _).push _)[w.heap.size + 1]? = _
    rw [Array.getElem?_push, if_pos (by simp)]
theorem Ts.c0 (h : Ts w k f t n x W) : W.cell? ⟨w.heap.size, 0, none⟩ = some (.int .i64 k) := by simp [World.cell?, h.tb]
theorem Ts.c1 (h : Ts w k f t n x W) : W.cell? ⟨w.heap.size, 1, none⟩ = some (.int .i64 f) := by simp [World.cell?, h.tb]
theorem Ts.c2 (h : Ts w k f t n x W) : W.cell? ⟨w.heap.size, 2, none⟩ = some (.int .i64 t) := by simp [World.cell?, h.tb]
theorem Ts.c3 (h : Ts w k f t n x W) : W.cell? ⟨w.heap.size, 3, none⟩ = some (.int .i64 0) := by simp [World.cell?, h.tb]
theorem Ts.c4 (h : Ts w k f t n x W) : W.cell? ⟨w.heap.size, 4, none⟩ = some (.int .i64 n) := by simp [World.cell?, h.tb]
theorem Ts.c5 (h : Ts w k f t n x W) : W.cell? ⟨w.heap.size, 5, none⟩ = some (.string x) := by simp [World.cell?, h.tb]
theorem Ts.fz (h : Ts w k f t n x W) (j : Nat) : W.frozen? ⟨w.heap.size, j, none⟩ = false := by simp [World.frozen?, h.tb]
theorem Ts.load (h : Ts w k f t n x W) : (Instr.loadAt 33 (.pointer (some ⟨w.heap.size, 0, none⟩))).run Tryd.prog W = .ok (.agg #[.int .i64 k, .int .i64 f, .int .i64 t, .int .i64 0, .int .i64 n, .string x]) W := by
  have hr : W.rangeAt w.heap.size 0 [.int .i64 k, .int .i64 f, .int .i64 t, .int .i64 0, .int .i64 n, .string x] := by
    intro j v hv
    have hj : j < 6 := by have := (List.getElem?_eq_some_iff.1 hv).1; simpa using this
    rw [Nat.zero_add]
    unfold World.cell?
    rw [h.tb]
    match j, hj, hv with
    | 0, _, hv => simpa using hv
    | 1, _, hv => simpa using hv
    | 2, _, hv => simpa using hv
    | 3, _, hv => simpa using hv
    | 4, _, hv => simpa using hv
    | 5, _, hv => simpa using hv
  have := run_loadAt_mid (P := Tryd.prog) W w.heap.size 0 33 [.int .i64 k, .int .i64 f, .int .i64 t, .int .i64 0, .int .i64 n, .string x] _ hr Tryd.underlying33 rfl (by kernel_rfl)
  simpa using this
theorem Ts.setx (h : Ts w k f t n x W) (j : Nat) (v : Value) : Below w.heap.size w (W.setCell ⟨w.heap.size, j, none⟩ v) ∧ Rz (w.heap.size + 1) (W.setCell ⟨w.heap.size, j, none⟩ v) :=
  ⟨h.bel.setCell (Nat.le_refl _) _, by unfold Rz; rw [Below.heap_setCell _ _ _ _ (show w.heap.size + 1 ≠ w.heap.size by omega)]; exact h.rz⟩
theorem Ts.set0 (h : Ts w k f t n x W) (y : Int) : Ts w y f t n x (W.setCell ⟨w.heap.size, 0, none⟩ (.int .i64 y)) := ⟨(h.setx _ _).1, by simp [World.setCell, Array.getElem?_modify, h.tb], (h.setx _ _).2⟩
theorem Ts.set2 (h : Ts w k f t n x W) (y : Int) : Ts w k f y n x (W.setCell ⟨w.heap.size, 2, none⟩ (.int .i64 y)) := ⟨(h.setx _ _).1, by simp [World.setCell, Array.getElem?_modify, h.tb], (h.setx _ _).2⟩
theorem Ts.set4 (h : Ts w k f t n x W) (y : Int) : Ts w k f t y x (W.setCell ⟨w.heap.size, 4, none⟩ (.int .i64 y)) := ⟨(h.setx _ _).1, by simp [World.setCell, Array.getElem?_modify, h.tb], (h.setx _ _).2⟩
theorem Ts.set5 (h : Ts w k f t n x W) (y : ByteArray) : Ts w k f t n y (W.setCell ⟨w.heap.size, 5, none⟩ (.string y)) := ⟨(h.setx _ _).1, by simp [World.setCell, Array.getElem?_modify, h.tb], (h.setx _ _).2⟩
end
theorem st6_bel {m b : Nat} {w W : World} (h : Below m w W) (hb : m ≤ b) (a1 a2 a3 a4 a5 a6 : Value) : Below m w (st6 W b a1 a2 a3 a4 a5 a6) := by
  unfold st6
  exact (((((h.setCell hb _).setCell hb _).setCell hb _).setCell hb _).setCell hb _).setCell hb _
end Go.Proofs.YtogenhnonjkanaaDoor
