import Derived.Test.YtgpbmmhfhjobkaaBaf
namespace Go.Proofs.Ytgpbmmhfhjobkaa
open Go.ChangeShapes Go.WideShapes Go.ChangeAt Go.RowKit
set_option linter.unusedVariables false
/-- what a form leaves of a bound; -1 when it leaves nothing -/
def szf (x : ByteArray) (p : Nat) (A : Nat → ByteArray) (q : Nat) (l : Int) : Int :=
  if l - (x.size : Int) < 0 then -1 else if lfs A (l - (x.size : Int) - p) p < 0 then -1 else if lfs A (l - (x.size : Int) - p) p - q < 0 then -1 else lfs A (l - (x.size : Int) - p) p - q
theorem szf_le (x : ByteArray) (p : Nat) (A : Nat → ByteArray) (q : Nat) (l : Int) (hl : 0 ≤ l) : szf x p A q l ≤ l := by
  unfold szf
  have := lfs_le A (l - (x.size : Int) - p) p
  split
  · omega
  · split
    · omega
    · split <;> omega
set_option maxRecDepth 100000 in
set_option maxHeartbeats 4000000 in
theorem sz_form {a : Fv} {n1 k1 : Value} {p q : Nat} {A : Nat → ByteArray} {K : Nat → Int} (w : World) (l : Int)
    (h1 : RowV w n1 p (fun i => .string (A i))) (h3 : RowV w k1 q (fun i => .int .i64 (K i))) (hx : (a.x.size : Int) < 140737488355328) (hp : (p : Int) < 140737488355328) (hA : ∀ i, i < p → ((A i).size : Int) < 140737488355328) (hq : (q : Int) < 140737488355328) (hl0 : 0 ≤ l) (hl : l ≤ 1048576) :
    Calls Try.prog 20 #[fmv a n1 k1, .int .i64 l] w fun e w' => e = .returned (.int .i64 (szf a.x p A q l)) ∧ Below w.heap.size w w' := by
  unfold fmv
  have g1 : Hid (∀ W' l, Below w.heap.size w W' → 0 ≤ l → l ≤ 1048576 → Calls Try.prog 30 #[n1, .int .i64 l] W' fun e w' => e = .returned (.int .i64 (if lfs A (l - p) p < 0 then -1 else lfs A (l - p) p)) ∧ w' = W') := (fun W' l hb g0 g => sz_strs W' l (h1.below hb) hp hA g0 g : ∀ W' l, _)
  have g2 : Hid (∀ W' l, Below w.heap.size w W' → 0 ≤ l → l ≤ 1048576 → Calls Try.prog 31 #[k1, .int .i64 l] W' fun e w' => e = .returned (.int .i64 (if l - q < 0 then -1 else l - q)) ∧ w' = W') := (fun W' l hb g0 g => sz_ints W' l (h3.below hb) hq g0 g : ∀ W' l, _)
  clear h1 h3 hp hA hq
  obtain ⟨k, f, t, ln, o, m, x⟩ := a
  replace hx : (x.size : Int) < 140737488355328 := hx
  have hs0 : (0 : Int) ≤ (x.size : Int) := Int.natCast_nonneg _
  obtain ⟨R, hR⟩ : ∃ R, R = szf x p A q l := ⟨_, rfl⟩
  show Calls _ _ _ _ fun e w' => e = .returned (.int .i64 (szf x p A q l)) ∧ Below w.heap.size w w'
  rw [← hR]
  unfold szf at hR
  go_enter Try.func20, Try.ntmps20
  rcases Int.lt_or_le (l - (x.size : Int)) 0 with c1 | c1
  · rw [if_pos c1] at hR
    subst hR
    clear g1 g2
    go_wp2_with fail
    go_ret
    exact ⟨rfl, bel1 _ _⟩
  · have c1' : ¬ (l - (x.size : Int) < 0) := by omega
    rw [if_neg c1'] at hR
    have HR : Hid (R = if lfs A (l - (x.size : Int) - p) p < 0 then -1 else if lfs A (l - (x.size : Int) - p) p - q < 0 then -1 else lfs A (l - (x.size : Int) - p) p - q) := hR
    clear hR
    go_wp2_with fail
    refine (g1 _ _ (bel1 _ _) c1 (by omega)).mono ?_
    rintro e w5 ⟨rfl, rfl⟩
    have hR := (show R = if lfs A (l - (x.size : Int) - p) p < 0 then -1 else if lfs A (l - (x.size : Int) - p) p - q < 0 then -1 else lfs A (l - (x.size : Int) - p) p - q from HR)
    have hy1 := lfs_le A (l - (x.size : Int) - p) p
    generalize lfs A (l - (x.size : Int) - p) p = y at *
    clear HR g1
    rcases Int.lt_or_le y 0 with c2 | c2
    · rw [if_pos c2] at hR ⊢
      subst hR
      clear g2
      go_wp2_with fail
      go_ret
      exact ⟨rfl, bel1 _ _⟩
    · have c2' : ¬ (y < 0) := by omega
      rw [if_neg c2'] at hR ⊢
      have HR : Hid (R = if y - q < 0 then -1 else y - q) := hR
      clear hR
      have hp0 : (0 : Int) ≤ (p : Int) := Int.natCast_nonneg _
      have hy2 : y ≤ 1048576 := by omega
      clear hy1 hp0 c1 c1' hs0 hx hl0 hl
      go_wp2_with fail
      refine (g2 _ _ (bel1 _ _) c2 hy2).mono ?_
      rintro e w5 ⟨rfl, rfl⟩
      have hR := (show R = if y - q < 0 then -1 else y - q from HR)
      rw [← hR]
      clear HR g2
      rcases Int.lt_or_le R 0 with c3 | c3
      · have e3 : R = -1 := by
          by_cases h : y - q < 0
          · rw [if_pos h] at hR; exact hR
          · rw [if_neg h] at hR; omega
        subst e3
        clear hR
        go_wp2_with fail
        go_ret
        exact ⟨rfl, bel1 _ _⟩
      · have c3' : ¬ (R < 0) := by omega
        clear hR
        go_wp2_with fail
        go_ret
        exact ⟨rfl, bel1 _ _⟩
end Go.Proofs.Ytgpbmmhfhjobkaa
