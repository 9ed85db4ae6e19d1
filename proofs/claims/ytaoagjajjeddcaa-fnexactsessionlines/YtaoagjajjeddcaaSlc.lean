import Derived.Test.YtaoagjajjeddcaaSlb
import Derived.Test.YtaoagjajjeddcaaEvb
import Derived.Test.YtaoagjajjeddcaaReg
namespace Go.Proofs.Ytaoagjajjeddcaa.Fo
open Go.ChangeShapes Go.WideShapes Go.ChangeAt Go.RowKit
set_option linter.unusedVariables false
set_option maxRecDepth 100000

/-- the first m of N cells hold s -/
def Rp (w1 : World) (G N : Nat) (s : ByteArray) (m : Nat) (W : World) : Prop := Kz G w1 W ∧ (∀ j, j < m → W.cell? ⟨G, j, none⟩ = some (.string s)) ∧ (∀ j, j < N → (W.cell? ⟨G, j, none⟩).isSome = true) ∧ ∀ j, W.frozen? ⟨G, j, none⟩ = false
theorem Rp.step {w1 : World} {G N : Nat} {s : ByteArray} {m : Nat} {W : World} (h : Rp w1 G N s m W) (hm : m < N) : Rp w1 G N s (m + 1) (W.setCell ⟨G, m, none⟩ (.string s)) := by
  obtain ⟨h1, h2, h3, h4⟩ := h
  obtain ⟨v, hv⟩ := Option.isSome_iff_exists.1 (h3 m hm)
  refine ⟨h1.set m _, fun j hj => ?_, fun j hj => ?_, fun j => by rw [World.frozen?_setCell]; exact h4 j⟩
  · by_cases e : j = m
    · subst e; exact set_eq _ _ _ _ _ hv
    · rw [set_ne _ _ _ _ _ e]; exact h2 j (by omega)
  · by_cases e : j = m
    · subst e; rw [set_eq _ _ _ _ _ hv]; rfl
    · rw [set_ne _ _ _ _ _ e]; exact h3 j hj
theorem Rp.fill {w1 : World} {G N : Nat} {s : ByteArray} : ∀ (c m : Nat) (W : World), m + c ≤ N → Rp w1 G N s m W → Rp w1 G N s (m + c) (W.setCells G m (List.replicate c (.string s)))
  | 0, _, _, _, h => h
  | c + 1, m, W, hc, h => by
    have := Rp.fill c (m + 1) _ (by omega) (h.step (by omega))
    rw [show m + (c + 1) = m + 1 + c by omega]
    exact this
theorem Rp.drew {w1 : World} {G N : Nat} {s : ByteArray} {m : Nat} {W : World} (h : Rp w1 G N s m W) : Rp w1 G N s m W.drew := ⟨⟨h.1.os, h.1.output, h.1.size, h.1.block⟩, h.2⟩
theorem infoS : (Try.prog.info? 9).map (·.size) = some 1 := by kernel_rfl
theorem rep_copy {w1 : World} {G N : Nat} {s : ByteArray} {m : Nat} {W : World} (h : Rp w1 G N s m W) (hm : m < N) (hm0 : 0 < m) : ∃ c W', 0 < c ∧ m + c ≤ N ∧ (∀ a b, (Builtin.copy_ #[41, 41] 3 #[.slice (some ⟨G, m, none⟩) (N - m) a, .slice (some ⟨G, 0, none⟩) m b]).run Try.prog W = .ok (.int .i64 (c : Int)) W') ∧ Rp w1 G N s (m + c) W' := by
  refine ⟨Nat.min m (N - m), W.setCells G m (List.replicate (Nat.min m (N - m)) (.string s)), ?_, ?_, fun a b => ?_, h.fill _ _ _ ?_⟩
  · have := Nat.lt_min.2 ⟨hm0, (by omega : 0 < N - m)⟩; exact this
  · have : Nat.min m (N - m) ≤ N - m := Nat.min_le_right _ _; omega
  · obtain ⟨h1, h2, h3, h4⟩ := h
    have hle1 : Nat.min m (N - m) ≤ m := Nat.min_le_left _ _
    have hle2 : Nat.min m (N - m) ≤ N - m := Nat.min_le_right _ _
    have e := run_copy_cells (P := Try.prog) W 41 41 3 9 G m (N - m) a ⟨G, 0, none⟩ m b (List.replicate (Nat.min m (N - m)) (.string s)) Try.underlying41 infoS (by rw [List.length_replicate]) (fun j v hv => by
      obtain ⟨hj, rfl⟩ := List.getElem?_eq_some_iff.1 hv
      rw [List.length_replicate] at hj
      rw [List.getElem_replicate]
      have : (⟨G, 0, none⟩ : Addr).add j = ⟨G, j, none⟩ := by unfold Addr.add; split <;> simp_all
      rw [this]
      exact h2 j (by omega)) (fun j hj => by rw [List.length_replicate] at hj; exact h3 (m + j) (by omega)) (fun j _ => h4 _) (fun v hv => by rw [List.eq_of_mem_replicate hv]; rfl)
    rw [e, List.length_replicate]
    rfl
  · have : Nat.min m (N - m) ≤ N - m := Nat.min_le_right _ _; omega
set_option maxHeartbeats 16000000 in
theorem im_repeat {g N : Nat} {s : ByteArray} (hN0 : 0 < N) (hN : N ≤ 50) (w : World) (hx : w.cell? ⟨g, 0, none⟩ = some (.string s)) :
    Calls Try.prog 37 #[.slice (some ⟨g, 0, none⟩) 1 1, .int .i64 (N : Int)] w fun e w' => e = .returned (.slice (some ⟨w.heap.size, 0, none⟩) N N) ∧ OwnR w' (.slice (some ⟨w.heap.size, 0, none⟩) N N) w.heap.size N (fun _ => .string s) ∧ Kb 0 w w' ∧ w.heap.size < w'.heap.size := by
  have HM := mul_1 hN w
  have hNI : (N : Int) ≤ 50 := by omega
  have hmk := run_make (P := Try.prog) w 41 9 Try.t9 (.string ⟨#[]⟩) Try.underlying41 (by kernel_rfl) (by kernel_rfl) .i64 .i64 (N : Int) (N : Int) (by omega) (Int.le_refl _) (by show (16 : Int) * (N : Int) ≤ _; omega) (by omega)
  rw [Int.toNat_natCast] at hmk
  obtain ⟨w1, hw1⟩ : ∃ w1, w1 = w.alloc (.cells (madeCells (.string ⟨#[]⟩ : Value).cells (N * Try.t9.size)) 9) := ⟨_, rfl⟩
  rw [← hw1] at hmk
  have c1 : ∀ j, j < N → w1.cell? ⟨w.heap.size, j, none⟩ = some (.string ⟨#[]⟩) := by intro j hj; rw [hw1]; exact made_cell w _ 9 N rfl j hj
  have f1 : ∀ j, w1.frozen? ⟨w.heap.size, j, none⟩ = false := by intro j; rw [hw1]; exact made_fz _ _ _ _
  have k1 : Kb 0 w w1 := by rw [hw1]; exact kb_alloc _ _ _
  have l1 : w.heap.size < w1.heap.size := by rw [hw1]; simp
  have r0 : Rp w1 w.heap.size N s 0 w1 := ⟨Kz.refl _ _, fun j hj => absurd hj (Nat.not_lt_zero _), fun j hj => by rw [c1 j hj]; rfl, f1⟩
  have r1 := r0.step hN0
  have hx1 := k1.cell hx
  obtain ⟨w2, hw2⟩ : ∃ w2, w2 = w1.setCell ⟨w.heap.size, 0, none⟩ (.string s) := ⟨_, rfl⟩
  have hcp : (Builtin.copy_ #[41, 41] 3 #[.slice (some ⟨w.heap.size, 0, none⟩) N N, .slice (some ⟨g, 0, none⟩) 1 1]).run Try.prog w1 = .ok (.int .i64 1) w2 := by
    have e := run_copy_cells (P := Try.prog) w1 41 41 3 9 w.heap.size 0 N N ⟨g, 0, none⟩ 1 1 [.string s] Try.underlying41 infoS (by show 1 = Nat.min 1 N; exact (Nat.min_eq_left (by omega)).symm) (fun j v hv => by
      match j, hv with
      | 0, hv => cases hv; exact hx1) (fun j hj => by obtain rfl : j = 0 := (by simpa using hj); rw [c1 0 hN0]; rfl) (fun j _ => f1 _) (fun v hv => by rw [List.mem_singleton.1 hv]; rfl)
    rw [e, hw2]
    rfl
  have HR0 : Hid (Rp w1 w.heap.size N s 1 w2) := by rw [hw2]; exact r1
  have HK1 : Hid (Kb 0 w w1 ∧ w.heap.size < w1.heap.size) := (⟨k1, l1⟩ : _ ∧ _)
  have hb1 : ¬ (9223372036854775807 : Int) < (N : Int) := by omega
  have hn0 : ¬ (N : Int) < 0 := by omega
  have HNN : Hid (0 < N ∧ N ≤ 50) := (⟨hN0, hN⟩ : _ ∧ _)
  clear hw1 c1 f1 k1 l1 r0 r1 hx1 hw2 hx hN hN0
  obtain ⟨G, hG⟩ : ∃ G, G = w.heap.size := ⟨_, rfl⟩
  rw [← hG] at hmk hcp HR0 HK1 ⊢
  have HG : Hid (w.heap.size ≤ G) := (by omega : w.heap.size ≤ G)
  clear hG
  go_enter Try.func37, Try.ntmps37
  go_wp2_with fail
  refine HM.mono ?_
  rintro e wz ⟨rfl, hwz⟩
  rw [hwz]
  clear HM hwz wz
  go_wp2_with fail
  go_loopw [8] (fun s8 wr => ∃ m : Nat, s8 = .int .i64 (m : Int) ∧ m ≤ N ∧ Hid (1 ≤ m ∧ Rp w1 G N s m wr)) (fun s8 _ => N - (intOf s8).toNat)
  case atStart => exact ⟨1, rfl, (show _ ∧ _ from HNN).1, ((⟨Nat.le_refl _, HR0⟩ : _ ∧ _) : 1 ≤ 1 ∧ Rp w1 G N s 1 w2)⟩
  case round =>
    clear HR0 hmk hcp
    obtain ⟨m, rfl, hmN, HX⟩ := hrel
    obtain ⟨hm0, hR⟩ := (show 1 ≤ m ∧ Rp w1 G N s m wr from HX)
    by_cases hm : m < N
    case neg =>
      obtain rfl : m = N := by omega
      have HFIN : Hid (OwnR wr (.slice (some ⟨G, 0, none⟩) m m) G m (fun _ => .string s) ∧ Kb 0 w wr ∧ G < wr.heap.size) := (⟨⟨⟨_, _, rfl, fun _ => ⟨rfl, Nat.le_refl _⟩⟩, fun j hj => hR.2.1 j hj, fun _ j => hR.2.2.2 j⟩, hR.1.kb (show _ ∧ _ from HK1).1 HG, by rw [hR.1.size]; exact (show _ ∧ _ from HK1).2⟩ : _ ∧ _)
      clear HX hR hm hmN
      go_wp2_with fail
      go_ret
      exact ⟨rfl, HFIN⟩
    have hmI : (m : Int) < (N : Int) := by omega
    obtain ⟨c, W', hc0, hcN, hcpy, hR'⟩ := rep_copy hR.drew hm (by omega)
    have HRR : Hid (1 ≤ m + c ∧ Rp w1 G N s (m + c) W') := (⟨by omega, hR'⟩ : _ ∧ _)
    have HWR : Hid (IntKind.i64.wrap ((m : Int) + (c : Int)) = ((m + c : Nat) : Int)) := (by rw [IntKind.wrap_i64]; omega : IntKind.i64.wrap ((m : Int) + (c : Int)) = ((m + c : Nat) : Int))
    have HCN : Hid (0 < c ∧ m + c ≤ N) := (⟨hc0, hcN⟩ : _ ∧ _)
    clear HX hR hc0 hcN hR'
    go_upto_region 9 with fail
    refine AnyL.region (S := fun _ => True) (z := 9) (by kernel_rfl) ?_
    obtain ⟨W0, hW0⟩ : ∃ W0, W0 = wr.drew := ⟨_, rfl⟩
    rw [← hW0] at hcpy ⊢
    have hS0 : (fun _ : World => True) W0 := trivial
    clear hW0
    refine AnyL.takeAt 0 (.int .i64 (m : Int)) rfl (by kernel_rfl) (by kernel_rfl) (by kernel_rfl) (by kernel_rfl) (fun _ _ _ h => h) rfl hS0 (by intro W hW; go_simp) ?_
    try simp only [Act.put, List.setIfInBounds_toArray, List.set_cons_zero, List.set_cons_succ]
    refine AnyL.takeAt 1 (.slice (some ⟨G, 0, none⟩) N N) rfl (by kernel_rfl) (by kernel_rfl) (by kernel_rfl) (by kernel_rfl) (fun _ _ _ h => h) rfl hS0 (by intro W hW; go_simp) ?_
    try simp only [Act.put, List.setIfInBounds_toArray, List.set_cons_zero, List.set_cons_succ]
    refine AnyL.takeAt 2 (.int .i64 (m : Int)) rfl (by kernel_rfl) (by kernel_rfl) (by kernel_rfl) (by kernel_rfl) (fun _ _ _ h => h) rfl hS0 (by intro W hW; go_simp) ?_
    try simp only [Act.put, List.setIfInBounds_toArray, List.set_cons_zero, List.set_cons_succ]
    refine AnyL.takeAt 3 (.slice (some ⟨G, m, none⟩) (N - m) (N - m)) rfl (by kernel_rfl) (by kernel_rfl) (by kernel_rfl) (by kernel_rfl) (fun _ _ _ h => h) rfl hS0 (by intro W hW; go_simp; omega) ?_
    try simp only [Act.put, List.setIfInBounds_toArray, List.set_cons_zero, List.set_cons_succ]
    refine AnyL.takeAt 4 (.slice (some ⟨G, 0, none⟩) N N) rfl (by kernel_rfl) (by kernel_rfl) (by kernel_rfl) (by kernel_rfl) (fun _ _ _ h => h) rfl hS0 (by intro W hW; go_simp) ?_
    try simp only [Act.put, List.setIfInBounds_toArray, List.set_cons_zero, List.set_cons_succ]
    refine AnyL.takeAt 5 (.int .i64 (m : Int)) rfl (by kernel_rfl) (by kernel_rfl) (by kernel_rfl) (by kernel_rfl) (fun _ _ _ h => h) rfl hS0 (by intro W hW; go_simp) ?_
    try simp only [Act.put, List.setIfInBounds_toArray, List.set_cons_zero, List.set_cons_succ]
    refine AnyL.takeAt 6 (.slice (some ⟨G, 0, none⟩) m N) rfl (by kernel_rfl) (by kernel_rfl) (by kernel_rfl) (by kernel_rfl) (fun _ _ _ h => h) rfl hS0 (by intro W hW; first | (go_simp; done) | (go_simp; omega)) ?_
    try simp only [Act.put, List.setIfInBounds_toArray, List.set_cons_zero, List.set_cons_succ]
    refine AnyL.oneAt 7 rfl (by kernel_rfl) rfl ?_
    intro K hK
    go_simp
    refine hK.out _ _ (fun _ => trivial) ?_
    clear hK K
    try simp only [Act.put, List.setIfInBounds_toArray, List.set_cons_zero, List.set_cons_succ]
    refine AnyL.oneAt 8 rfl (by kernel_rfl) rfl ?_
    intro K hK
    go_simp
    rw [show IntKind.i64.wrap ((m : Int) + (c : Int)) = _ from HWR]
    refine hK.out _ _ (fun _ => trivial) ?_
    clear hK K
    try simp only [Act.put, List.setIfInBounds_toArray, List.set_cons_zero, List.set_cons_succ]
    refine AnyL.oneAt 9 rfl (by kernel_rfl) rfl ?_
    intro K hK
    go_simp
    refine hK.out _ _ (fun h => absurd rfl h) ?_
    clear hK K
    try simp only [Act.put, List.setIfInBounds_toArray, List.set_cons_zero, List.set_cons_succ]
    refine AnyL.done (by kernel_rfl) ?_
    go_wp2_with fail
    go_roundw
    case rel => exact ⟨m + c, by go_num, (show _ ∧ _ from HCN).2, HRR⟩
    case measure => have := (show _ ∧ _ from HCN); simp [intOf]; omega
end Go.Proofs.Ytaoagjajjeddcaa.Fo
