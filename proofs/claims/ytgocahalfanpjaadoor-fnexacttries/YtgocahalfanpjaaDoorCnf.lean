import Derived.Test.YtgocahalfanpjaaDoorCne
namespace Go.Proofs.YtgocahalfanpjaaDoor.Fo
open Go.ChangeShapes Go.WideShapes Go.ChangeAt Go.RowKit
set_option linter.unusedVariables false
set_option maxRecDepth 100000

/-- what is answered, as a value -/
def clV (c : Int × List UInt8) : Value := .agg #[.int .i64 c.1, .string (bt c.2)]
theorem kb_set {a w : World} (h : Kb 0 a w) (p : Addr) (hp : a.heap.size ≤ p.block) (v : Value) : Kb 0 a (w.setCell p v) :=
  ⟨h.os, h.output, by simpa using h.size, fun k h1 h2 => (Below.heap_setCell w p v k (fun e => by omega)).trans (h.block k h1 h2)⟩
theorem one_box (w : World) (c : Array Value) (t : TypeId) (w1 : World) (h : w1 = w.alloc (.cells c t)) : w1.heap[w.heap.size]? = some (.cells c t (0, 0)) ∧ w1.heap.size = w.heap.size + 1 ∧ Kb 0 w w1 := by
  subst h
  exact ⟨alloc_new w c t, World.size_alloc _ _, kb_alloc 0 w _⟩
set_option maxHeartbeats 16000000 in
theorem sp_named {va : Value} {R : List (List UInt8)} {l : List UInt8} (hR : R.length ≤ 60) (hp : ∀ p ∈ R, p.length ≤ 60) (hne : ∀ p ∈ R, p ≠ []) (w : World) (ha : RowT w va R) :
    Calls Tryd.prog 17 #[va, .string (bt l)] w fun e w' => e = .returned (clV (cln R l)) ∧ Kb 0 w w' := by
  have hsz : (bt l).size = l.length := bt_size l
  obtain ⟨V, hV⟩ : ∃ V, V = cln R l := ⟨_, rfl⟩
  rw [← hV]
  obtain ⟨w1, hw1⟩ : ∃ w1, w1 = w.alloc (.cells #[.int .i64 0, .string ⟨#[]⟩] 23) := ⟨_, rfl⟩
  obtain ⟨b1, z1, k1⟩ := one_box w _ _ w1 hw1
  have ha1 := ha.keep k1
  clear ha
  by_cases h60 : 60 < l.length
  · have hI : (l.length : Int) > 60 := by omega
    have eV : V = (3, []) := by rw [hV, cln, if_pos h60]
    subst eV
    have a0 : w1.cell? ⟨w.heap.size, 0, none⟩ = some (.int .i64 0) := cell_of b1 rfl
    have a1 : w1.cell? ⟨w.heap.size, 1, none⟩ = some (.string ⟨#[]⟩) := cell_of b1 rfl
    have fz : ∀ j, w1.frozen? ⟨w.heap.size, j, none⟩ = false := fun j => frozen_of b1
    have HK : Kb 0 w w1 := k1
    clear k1 b1 ha1 hne hp hR hV h60
    go_enter Tryd.func17, Tryd.ntmps17
    go_wp2_with fail
    refine bodyPost_ret (by simp [results, Tryd.results17, go_sem]; rfl) rfl ?_
    exact ⟨rfl, kb_alloc 0 w _⟩
  have hI : ¬ (l.length : Int) > 60 := by omega
  have HWK : Hid (Calls Tryd.prog 26 #[va, .string (bt l)] w1 fun e w' => ((wst R (spB l)).1 ≠ 0 → e = .returned (.tuple #[.slice none 0 0, .int .i64 (wst R (spB l)).1])) ∧ ((wst R (spB l)).1 = 0 → ∃ v, e = .returned (.tuple #[v, .int .i64 0]) ∧ RowT w' v (wst R (spB l)).2) ∧ Kb 0 w1 w') := (sp_walk (by omega) hR w1 ha1 : Calls _ _ _ _ _)
  have HP : Hid (∀ p ∈ (wst R (spB l)).2, p.length ≤ 60 ∧ p ≠ []) := (fun p h => ⟨wst_part R (spB l) hp (fun q hq => by have := spB_part l q hq; omega) p h, wst_ne R (spB l) hne p h⟩ : ∀ p ∈ (wst R (spB l)).2, _)
  have HL : Hid ((wst R (spB l)).2.length ≤ 200) := (by have := wst_len R (spB l); have := spB_len l; omega : _ ≤ _)
  have hV : V = _ := hV
  rw [cln, if_neg h60] at hV
  obtain ⟨S, hS⟩ : ∃ S, S = wst R (spB l) := ⟨_, rfl⟩
  rw [← hS] at hV HL HP HWK
  obtain ⟨c, D⟩ := S
  simp only at hV HL HP HWK
  clear hS hne hp hR h60 ha1
  have B1 : Hid (w1.heap[w.heap.size]? = some (.cells #[.int .i64 0, .string ⟨#[]⟩] 23 (0, 0)) ∧ w1.heap.size = w.heap.size + 1 ∧ Kb 0 w w1) := (⟨b1, z1, k1⟩ : _ ∧ _)
  clear b1 z1 k1
  go_enter Tryd.func17, Tryd.ntmps17
  go_wp2_with fail
  rw [← hw1]
  refine (show Calls _ _ _ _ _ from HWK).mono ?_
  rintro e x ⟨p1, p2, kx⟩
  obtain ⟨b1, z1, k1⟩ := (show _ ∧ _ ∧ _ from B1)
  have HK : Kb 0 w x := k1.trans kx
  have bx : x.heap[w.heap.size]? = some (.cells #[.int .i64 0, .string ⟨#[]⟩] 23 (0, 0)) := (kx.block _ (Nat.zero_le _) (by omega)).trans b1
  have a0 : x.cell? ⟨w.heap.size, 0, none⟩ = some (.int .i64 0) := cell_of bx rfl
  have a1 : x.cell? ⟨w.heap.size, 1, none⟩ = some (.string ⟨#[]⟩) := cell_of bx rfl
  have fz : ∀ j, x.frozen? ⟨w.heap.size, j, none⟩ = false := fun j => frozen_of bx
  clear HWK B1 b1 z1 k1 kx bx hw1 w1
  by_cases c0 : c = 0
  rotate_left
  · obtain rfl := p1 c0
    have eV : V = (c, []) := by rw [hV, if_pos c0]
    subst eV
    have n0 : (c == 0) = false := by simpa using c0
    clear p1 p2 hV HP HL
    go_wp2_with fail
    refine bodyPost_ret (by simp [results, Tryd.results17, go_sem, a0, a1]; rfl) rfl ?_
    exact ⟨rfl, kb_set (kb_set HK ⟨w.heap.size, 0, none⟩ (Nat.le_refl _) _) ⟨w.heap.size, 1, none⟩ (Nat.le_refl _) _⟩
  subst c0
  rw [if_neg (by decide)] at hV
  obtain ⟨v, rfl, hr⟩ := p2 rfl
  have HJ : Hid (Calls Tryd.prog 27 #[v] x fun e w' => e = .returned (.string (bt (jn D))) ∧ w' = x) := (sp_joined HL (fun p h => ((show ∀ p ∈ D, _ from HP) p h).1) x hr : Calls _ _ _ _ _)
  clear p1 p2 hr
  go_wp2_with fail
  refine (show Calls _ _ _ _ _ from HJ).mono ?_
  rintro e x' ⟨rfl, rfl⟩
  have hjs : (bt (jn D)).size = (jn D).length := bt_size _
  have ebl : (bt (jn D)).toList = jn D := bt_list _
  clear HJ
  by_cases d0 : D = []
  · subst d0
    have eV : V = (1, []) := by rw [hV, if_pos rfl]
    subst eV
    have ej : bt (jn []) = ⟨#[]⟩ := rfl
    rw [ej]
    clear hV HP HL hjs ebl
    go_wp2_with fail
    refine bodyPost_ret (by simp [results, Tryd.results17, go_sem, a0, a1]; rfl) rfl ?_
    exact ⟨rfl, kb_set (kb_set HK ⟨w.heap.size, 0, none⟩ (Nat.le_refl _) _) ⟨w.heap.size, 1, none⟩ (Nat.le_refl _) _⟩
  rw [if_neg d0] at hV
  have jne : jn D ≠ [] := fun q => d0 (jn_nil (fun p h => ((show ∀ p ∈ D, _ from HP) p h).2) q)
  have hjl := jn_len (R := D) (fun p h => ((show ∀ p ∈ D, _ from HP) p h).1)
  have hlD : D.length ≤ 200 := HL
  obtain ⟨J, hJ⟩ : ∃ J, J = jn D := ⟨_, rfl⟩
  rw [← hJ] at hV jne hjl hjs ebl ⊢
  have m1 : (J == []) = false := by simpa using jne
  have m2 : J.isEmpty = false := by simpa using jne
  have hjI : (J.length : Int) ≤ 20000 := by omega
  by_cases j60 : 60 < J.length
  · have eV : V = (3, []) := by rw [hV, if_pos j60]
    subst eV
    have jI : (J.length : Int) > 60 := by omega
    clear hV HP HL hJ jne hjl hlD d0
    go_wp2_with fail
    refine bodyPost_ret (by simp [results, Tryd.results17, go_sem, a0, a1]; rfl) rfl ?_
    exact ⟨rfl, kb_set (kb_set HK ⟨w.heap.size, 0, none⟩ (Nat.le_refl _) _) ⟨w.heap.size, 1, none⟩ (Nat.le_refl _) _⟩
  have eV : V = (0, J) := by rw [hV, if_neg j60]
  subst eV
  have jI : ¬ (J.length : Int) > 60 := by omega
  clear hV HP HL hJ jne hjl hlD d0
  go_wp2_with fail
  refine bodyPost_ret (by simp [results, Tryd.results17, go_sem, a0, a1]; rfl) rfl ?_
  exact ⟨rfl, kb_set (kb_set HK ⟨w.heap.size, 0, none⟩ (Nat.le_refl _) _) ⟨w.heap.size, 1, none⟩ (Nat.le_refl _) _⟩
theorem rowt_nil (w : World) : RowT w (.slice none 0 0) [] := ⟨none, 0, rfl, fun h => absurd h (by decide)⟩
set_option maxHeartbeats 16000000 in
theorem sp_clean (l : List UInt8) (w : World) :
    Calls Tryd.prog 15 #[.string (bt l)] w fun e w' => e = .returned (clV (cln [] l)) ∧ Kb 0 w w' := by
  have HN : Hid (∀ W, Calls Tryd.prog 17 #[.slice none 0 0, .string (bt l)] W fun e w' => e = .returned (clV (cln [] l)) ∧ Kb 0 W w') := (fun W => sp_named (R := []) (by simp) (by simp) (by simp) W (rowt_nil W) : ∀ W, _)
  obtain ⟨w1, hw1⟩ : ∃ w1, w1 = w.alloc (.cells #[.int .i64 0, .string ⟨#[]⟩] 23) := ⟨_, rfl⟩
  obtain ⟨b1, z1, k1⟩ := one_box w _ _ w1 hw1
  have B1 : Hid (w1.heap[w.heap.size]? = some (.cells #[.int .i64 0, .string ⟨#[]⟩] 23 (0, 0)) ∧ w1.heap.size = w.heap.size + 1 ∧ Kb 0 w w1) := (⟨b1, z1, k1⟩ : _ ∧ _)
  clear b1 z1 k1
  obtain ⟨V, hV⟩ : ∃ V, V = cln [] l := ⟨_, rfl⟩
  rw [← hV] at HN ⊢
  clear hV
  go_enter Tryd.func15, Tryd.ntmps15
  go_wp2_with fail
  rw [← hw1]
  refine ((show ∀ W, _ from HN) w1).mono ?_
  rintro e x ⟨rfl, kx⟩
  obtain ⟨b1, z1, k1⟩ := (show _ ∧ _ ∧ _ from B1)
  have HK : Kb 0 w x := k1.trans kx
  have bx : x.heap[w.heap.size]? = some (.cells #[.int .i64 0, .string ⟨#[]⟩] 23 (0, 0)) := (kx.block _ (Nat.zero_le _) (by omega)).trans b1
  have a0 : x.cell? ⟨w.heap.size, 0, none⟩ = some (.int .i64 0) := cell_of bx rfl
  have a1 : x.cell? ⟨w.heap.size, 1, none⟩ = some (.string ⟨#[]⟩) := cell_of bx rfl
  have fz : ∀ j, x.frozen? ⟨w.heap.size, j, none⟩ = false := fun j => frozen_of bx
  clear HN B1 b1 z1 k1 kx bx hw1 w1
  rw [clV]
  go_wp2_with fail
  refine bodyPost_ret (by simp [results, Tryd.results15, go_sem, a0, a1]; rfl) rfl ?_
  exact ⟨rfl, kb_set (kb_set HK ⟨w.heap.size, 0, none⟩ (Nat.le_refl _) _) ⟨w.heap.size, 1, none⟩ (Nat.le_refl _) _⟩
end Go.Proofs.YtgocahalfanpjaaDoor.Fo
