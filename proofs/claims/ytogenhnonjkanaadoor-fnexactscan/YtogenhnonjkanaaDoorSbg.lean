import Derived.Test.YtogenhnonjkanaaDoorSbf
import Derived.BigRegion
namespace Go.Proofs.YtogenhnonjkanaaDoor
open Go.ChangeShapes Go.WideShapes Go.ChangeAt Go.RowKit
set_option linter.unusedVariables false
set_option maxRecDepth 100000 in
set_option maxHeartbeats 2000000 in
theorem impl_token {B : Nat} {T : ByteArray} (L : List UInt8) (tk : Nat → Tk) (hB : 8 ≤ B) (hlen : L.length ≤ 65536) (hto : ∀ p, p < L.length → (tk p).to ≤ L.length) (hc : ∀ p, p < L.length → PartC 58 B T p (tk p)) : TokC B T L tk := by
  intro p l w hp hl0 hl1 hg h
  have hcp := hc p hp
  have htop := hto p hp
  clear hc hto
  obtain ⟨t, ht⟩ : ∃ t, tk p = t := ⟨_, rfl⟩
  rw [ht] at hcp htop ⊢
  obtain ⟨l', hl'⟩ : ∃ l', (if t.kind = 7 then l + 1 else l) = l' := ⟨_, rfl⟩
  rw [hl']
  obtain ⟨TV, hTV⟩ : ∃ TV, tkV tk (p, l) = TV := ⟨_, rfl⟩
  rw [hTV]
  have HL' : Hid ((if t.kind = 7 then l + 1 else l) = l') := hl'
  clear hl'
  have hBlt : B < w.heap.size := h.lt
  have hnB : w.heap.size ≠ B := by omega
  have hz := Mz.start h
  have hgz : Gd (w.alloc (.cells #[.int .i64 0, .int .i64 0, .int .i64 0, .int .i64 0, .int .i64 0, .string ⟨#[]⟩] 33)) := hg.kb hB hz.1.1
  have c1 := hz.1.2.c1
  have c2 := hz.1.2.c2
  obtain ⟨W, hWe, HS⟩ : ∃ W, W = (w.alloc (.cells #[.int .i64 0, .int .i64 0, .int .i64 0, .int .i64 0, .int .i64 0, .string ⟨#[]⟩] 33)) ∧ Hid (Mz B w.heap.size T p l false w W ∧ Gd W) := ⟨_, rfl, (⟨hz, hgz⟩ : _ ∧ _)⟩
  rw [← hWe] at c1 c2
  have HC : Hid (PartC 58 B T p t) := hcp
  obtain ⟨M, hM, hlM⟩ : ∃ M : Int, M ≤ 65538 ∧ l < M := ⟨65538, by omega, by omega⟩
  have HTV : Hid (TV = tokV t.kind p t.to l t.num t.text) := by show TV = _; rw [← hTV]; unfold tkV; rw [ht]
  clear hTV ht
  clear hg h hz hgz hcp hl1 hp htop hlen
  go_enter Tryd.func41, Tryd.ntmps41
  go_wp2_with fail
  rw [← hWe]
  clear hWe
  go_quiet (fail)
  obtain ⟨W2, hWe2, HS2⟩ : ∃ W2, W2 = W.drewN nq ∧ Hid (Mz B w.heap.size T p l false w W2 ∧ Gd W2) := ⟨_, rfl, (⟨HS.1.drewN nq, ⟨HS.2.words, HS.2.marks, HS.2.infx, HS.2.err7, HS.2.err6, HS.2.size⟩⟩ : _ ∧ _)⟩
  rw [← hWe2]
  clear hWe2 HS c1 c2
  have hcall := (show PartC 58 B T p t from HC) l W2 HS2.2 HS2.1.1.2
  clear HC
  unfold tokV at hcall
  go_wp2_with fail
  refine hcall.mono ?_
  rintro en W3 ⟨rfl, m3⟩
  have hq := HS2.1.trans m3 hnB
  clear hcall HS2 m3
  have d1 : ∀ o : Obj, (W3.alloc o).cell? ⟨B, 1, none⟩ = some (.int .i64 (t.to : Int)) := fun o => by
    rw [World.cell?_of_block (w := W3) (Below.heap_alloc _ _ _ hq.1.2.lt)]; exact hq.1.2.c1
  have HQ : Hid (Mz B w.heap.size T (t.to : Int) l false w W3) := hq
  clear hq
  go_wp2_with fail
  go_region
  obtain ⟨A, hA⟩ : ∃ A, A = (W3.alloc (.cells #[.int .i64 t.kind, .int .i64 (p : Int), .int .i64 (t.to : Int), .int .i64 l, .int .i64 t.num, .string t.text] 33)).drew := ⟨_, rfl⟩
  rw [← hA]
  have hbx : A.heap[W3.heap.size]? = some (.cells #[.int .i64 t.kind, .int .i64 (p : Int), .int .i64 (t.to : Int), .int .i64 l, .int .i64 t.num, .string t.text] 33 (0, 0)) := by rw [hA]; show (W3.heap.push _)[W3.heap.size]? = _; simp
  have hmz : Mz B w.heap.size T (t.to : Int) l false w A := by
    have h1 := (show Mz B w.heap.size T (t.to : Int) l false w W3 from HQ)
    have h2 := h1.trans (Mv.below h1.1.2 ((Below.refl _ W3).alloc (Nat.le_refl _) (.cells #[.int .i64 t.kind, .int .i64 (p : Int), .int .i64 (t.to : Int), .int .i64 l, .int .i64 t.num, .string t.text] 33)) (Nat.le_refl _)) hnB
    rw [hA]
    exact h2.drewN 1
  have hBW : B ≠ W3.heap.size := by have := (show Mz B w.heap.size T (t.to : Int) l false w W3 from HQ).1.2.lt; omega
  clear hA HQ d1
  generalize hkd : t.kind = kd at *
  by_cases h7 : kd = 7
  · have hk7 : True := trivial
    have hifp : (if kd = 7 then l + 1 else l) = l + 1 := if_pos h7
    have HIF : Hid ((if kd = 7 then l + 1 else l) = l + 1) := hifp
    subst h7
    have c2 := hmz.1.2.c2
    have f2 := hmz.1.2.fz 2
    have v0 : A.cell? ⟨W3.heap.size, 0, none⟩ = some (.int .i64 7) := by simp [World.cell?, hbx]
    have hmz2 : Mz B w.heap.size T (t.to : Int) (l + 1) false w (A.setCell ⟨B, 2, none⟩ (.int .i64 (l + 1))) := ⟨⟨hmz.1.1.setCell 2 _, hmz.1.2.set2 _⟩, by unfold Rz; rw [Below.heap_setCell _ _ _ _ hnB]; exact hmz.2⟩
    have x0 : (A.setCell ⟨B, 2, none⟩ (.int .i64 (l + 1))).cell? ⟨W3.heap.size, 0, none⟩ = some (.int .i64 7) := by rw [World.cell?_of_block (w := A) (Below.heap_setCell _ _ _ _ (by exact fun g => hBW g.symm))]; simp [World.cell?, hbx]
    have x1 : (A.setCell ⟨B, 2, none⟩ (.int .i64 (l + 1))).cell? ⟨W3.heap.size, 1, none⟩ = some (.int .i64 (p : Int)) := by rw [World.cell?_of_block (w := A) (Below.heap_setCell _ _ _ _ (by exact fun g => hBW g.symm))]; simp [World.cell?, hbx]
    have x2 : (A.setCell ⟨B, 2, none⟩ (.int .i64 (l + 1))).cell? ⟨W3.heap.size, 2, none⟩ = some (.int .i64 (t.to : Int)) := by rw [World.cell?_of_block (w := A) (Below.heap_setCell _ _ _ _ (by exact fun g => hBW g.symm))]; simp [World.cell?, hbx]
    have x3 : (A.setCell ⟨B, 2, none⟩ (.int .i64 (l + 1))).cell? ⟨W3.heap.size, 3, none⟩ = some (.int .i64 l) := by rw [World.cell?_of_block (w := A) (Below.heap_setCell _ _ _ _ (by exact fun g => hBW g.symm))]; simp [World.cell?, hbx]
    have x4 : (A.setCell ⟨B, 2, none⟩ (.int .i64 (l + 1))).cell? ⟨W3.heap.size, 4, none⟩ = some (.int .i64 t.num) := by rw [World.cell?_of_block (w := A) (Below.heap_setCell _ _ _ _ (by exact fun g => hBW g.symm))]; simp [World.cell?, hbx]
    have x5 : (A.setCell ⟨B, 2, none⟩ (.int .i64 (l + 1))).cell? ⟨W3.heap.size, 5, none⟩ = some (.string t.text) := by rw [World.cell?_of_block (w := A) (Below.heap_setCell _ _ _ _ (by exact fun g => hBW g.symm))]; simp [World.cell?, hbx]
    have z3 := hmz2.2
    have g0 := z3.c0
    have g1 := z3.c1
    have g2 := z3.c2
    have g3 := z3.c3
    have g4 := z3.c4
    have g5 := z3.c5
    have y0 := z3.f0
    have y1 := z3.f1
    have y2 := z3.f2
    have y3 := z3.f3
    have y4 := z3.f4
    have y5 := z3.f5
    have e0 := st6_c0 z3
    have e1 := st6_c1 z3
    have e2 := st6_c2 z3
    have e3 := st6_c3 z3
    have e4 := st6_c4 z3
    have e5 := st6_c5 z3
    have HM4 : Hid (Mv B T (t.to : Int) (l + 1) false w (A.setCell ⟨B, 2, none⟩ (.int .i64 (l + 1)))) := hmz2.1
    clear hmz hmz2 z3 hbx hifp
    go_wp2_with fail
    refine bodyPost_ret (by simp [results, Tryd.results41, go_sem, e0, e1, e2, e3, e4, e5]; rfl) rfl ?_
    rw [show TV = tokV 7 p t.to l t.num t.text from HTV]
    refine ⟨rfl, ?_⟩
    rw [← (show _ = l' from HL'), show _ = _ from HIF]
    exact st6_mv HM4 (Nat.le_refl _) hnB _ _ _ _ _ _
  · have hk7 : (kd == 7) = false := by simpa using h7
    have hifp : (if kd = 7 then l + 1 else l) = l := if_neg h7
    have HIF : Hid ((if kd = 7 then l + 1 else l) = l) := hifp
    have x0 : A.cell? ⟨W3.heap.size, 0, none⟩ = some (.int .i64 kd) := by simp [World.cell?, hbx]
    have x1 : A.cell? ⟨W3.heap.size, 1, none⟩ = some (.int .i64 (p : Int)) := by simp [World.cell?, hbx]
    have x2 : A.cell? ⟨W3.heap.size, 2, none⟩ = some (.int .i64 (t.to : Int)) := by simp [World.cell?, hbx]
    have x3 : A.cell? ⟨W3.heap.size, 3, none⟩ = some (.int .i64 l) := by simp [World.cell?, hbx]
    have x4 : A.cell? ⟨W3.heap.size, 4, none⟩ = some (.int .i64 t.num) := by simp [World.cell?, hbx]
    have x5 : A.cell? ⟨W3.heap.size, 5, none⟩ = some (.string t.text) := by simp [World.cell?, hbx]
    have z3 := hmz.2
    have g0 := z3.c0
    have g1 := z3.c1
    have g2 := z3.c2
    have g3 := z3.c3
    have g4 := z3.c4
    have g5 := z3.c5
    have y0 := z3.f0
    have y1 := z3.f1
    have y2 := z3.f2
    have y3 := z3.f3
    have y4 := z3.f4
    have y5 := z3.f5
    have e0 := st6_c0 z3
    have e1 := st6_c1 z3
    have e2 := st6_c2 z3
    have e3 := st6_c3 z3
    have e4 := st6_c4 z3
    have e5 := st6_c5 z3
    have HM4 : Hid (Mv B T (t.to : Int) l false w A) := hmz.1
    clear hmz z3 hbx h7 hifp
    go_wp2_with fail
    refine bodyPost_ret (by simp [results, Tryd.results41, go_sem, e0, e1, e2, e3, e4, e5]; rfl) rfl ?_
    rw [show TV = tokV kd p t.to l t.num t.text from HTV]
    refine ⟨rfl, ?_⟩
    rw [← (show _ = l' from HL'), show _ = _ from HIF]
    exact st6_mv HM4 (Nat.le_refl _) hnB _ _ _ _ _ _
end Go.Proofs.YtogenhnonjkanaaDoor
