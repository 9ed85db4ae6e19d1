import Derived.Test.YtgocahalfanpjaaDoorTra
import Derived.Test.YtgocahalfanpjaaDoorCnd
namespace Go.Proofs.YtgocahalfanpjaaDoor.Fo
open Go.ChangeShapes Go.WideShapes Go.ChangeAt Go.RowKit
set_option linter.unusedVariables false
set_option maxRecDepth 100000
theorem own_pos9 {W : World} {B t n : Nat} {v : Value} {xs : List Value} (h : W.ownsRow B t 1 v n xs) (hn : 0 < n) : ∃ g c, v = .slice (some ⟨g, 0, none⟩) n c ∧ n ≤ c := by
  rcases h.2 with ⟨_, q⟩ | ⟨g, cap, cur, e, _, _, q, _⟩
  · omega
  · exact ⟨g, cap, e, q⟩
set_option maxHeartbeats 16000000 in
theorem sp_parts9 {l : List UInt8} (hl : l.length ≤ 1048576) (w : World) :
    Calls Tryd.prog 16 #[.string (bt l)] w fun e w' => ∃ v, e = .returned v ∧ w'.ownsRow w.heap.size 9 1 v (spB l).length (stv (spB l)) ∧ Kb 0 w w' := by
  obtain ⟨i1, hi1, hz0, hz1, hz2⟩ := infoT
  have HI1 : Hid (Tryd.prog.info? 9 = some i1) := hi1
  have hlI : (l.length : Int) ≤ 1048576 := by omega
  have hsz : (bt l).size = l.length := bt_size l
  clear hi1 hl
  go_enter Tryd.func16, Tryd.ntmps16
  go_wp2_with fail
  go_loopw [3, 4, 5] (fun s3 s4 s5 wr => ∃ (i a0 : Nat) (D : List (List UInt8)), s4 = .int .i64 (a0 : Int) ∧ s5 = .int .i64 (i : Int) ∧ i ≤ l.length + 1 ∧ a0 ≤ i ∧ Hid (PI l a0 i D ∧ wr.ownsRow w.heap.size 9 1 s3 D.length (stv D) ∧ Kb 0 w wr)) (fun _ _ s5 _ => l.length + 1 - (intOf s5).toNat)
  case atStart => exact ⟨0, 0, [], rfl, rfl, Nat.zero_le _, Nat.le_refl _, (⟨PI.start l, World.ownsRow_nil _ _ _ _, Kb.refl _ _⟩ : _ ∧ _)⟩
  case round =>
    obtain ⟨i, a0, D, rfl, rfl, hil, hai, HX⟩ := hrel
    obtain ⟨hP, ho, hk⟩ := (show _ ∧ _ ∧ _ from HX)
    obtain ⟨pv, cv, rfl⟩ := own_shape ho
    clear HX
    by_cases hi : i = l.length + 1
    · have eD := hP.2.1 hi
      subst eD
      have hiI : ¬ (i : Int) ≤ (l.length : Int) := by omega
      have HE : Hid (wr.ownsRow w.heap.size 9 1 (.slice pv (spB l).length cv) (spB l).length (stv (spB l)) ∧ Kb 0 w wr) := (⟨ho, hk⟩ : _ ∧ _)
      clear ho hk HI1 hz0 hz1 hz2 hP hi
      go_wp2_with fail
      go_ret
      exact ⟨_, rfl, HE⟩
    have hiI : (i : Int) ≤ (l.length : Int) := by omega
    have HOW : Hid (wr.ownsRow w.heap.size 9 1 (.slice pv D.length cv) D.length (stv D) ∧ Kb 0 w wr) := (⟨ho, hk⟩ : _ ∧ _)
    have hDl : (D.length : Int) ≤ 1048577 := by have := hP.2.2; omega
    have hsl := fun W => sl_bt (l := l) (a := a0) (i := i) hai (by omega) W
    by_cases hin : i = l.length
    · have e1 : ((i : Int) == (l.length : Int)) = true := by simp; omega
      have HPN : Hid (PI l (i + 1) (i + 1) (D ++ [pc l a0 i])) := (by subst hin; exact hP.last : PI l (i + 1) (i + 1) (D ++ [pc l a0 i]))
      clear ho hk hP hi hin hil hai
      go_wp2_with (refine wpList_append_lies _ (by rfl) (.tmp 22) (.tmp 27) 27 (by rfl) w.heap.size 9 i1 (.string ⟨#[]⟩) 1 16 Tryd.underlying27 HI1 hz0 hz1 hz2 rfl (by decide) (.slice pv D.length cv) D.length (stv D) (by rfl) ((show wr.ownsRow w.heap.size 9 1 (.slice pv D.length cv) D.length (stv D) ∧ _ from HOW).1.alloc _) ⟨wr.heap.size, 0, none⟩ 1 1 [.string (bt (pc l a0 i))] (by rfl) rfl (qr_cells wr #[.string (bt (pc l a0 i))] 9 [.string (bt (pc l a0 i))] rfl) (by intro y hy; simp only [List.mem_cons, List.not_mem_nil, or_false] at hy; rcases hy with rfl; rfl) (by decide) (by unfold maxLen; omega) (by omega) (by rw [World.size_alloc]; have := (show _ ∧ _ from HOW).2.size; omega) (wr.heap.size + 1) (World.size_alloc _ _) ?_; intro g cap w8 hown1 hgrow1 hat hlt; have HN : Hid (w8.ownsRow w.heap.size 9 1 (.slice (some ⟨g, 0, none⟩) (D.length + 1) cap) (D ++ [(pc l a0 i)]).length (stv (D ++ [(pc l a0 i)])) ∧ Kb 0 w w8) := (⟨by rw [stv_app, List.length_append]; exact hown1, kb_app (show _ ∧ _ from HOW).2 (show wr.ownsRow w.heap.size 9 1 (.slice pv D.length cv) D.length (stv D) ∧ _ from HOW).1 (Nat.le_refl _) hgrow1⟩ : _ ∧ _); clear hown1 hgrow1 hat hlt HOW)
      go_roundw
      case rel => exact ⟨i + 1, i + 1, D ++ [pc l a0 i], by go_num, by go_num, by omega, Nat.le_refl _, (⟨HPN, HN⟩ : _ ∧ _)⟩
      case measure => simp [intOf]; omega
    have e1 : ((i : Int) == (l.length : Int)) = false := by simp; omega
    obtain ⟨b, hb⟩ : ∃ b, l[i]? = some b := ⟨_, List.getElem?_eq_getElem (by omega)⟩
    have hix := fun W => ix_bt hb W
    by_cases h47 : b = 47
    · subst h47
      have e47 : (((47 : UInt8).toNat : Int) == 47) = true := by decide
      have HPN : Hid (PI l (i + 1) (i + 1) (D ++ [pc l a0 i])) := hP.cut hb
      clear ho hk hP hi hin hil hai hb
      go_wp2_with (refine wpList_append_lies _ (by rfl) (.tmp 22) (.tmp 27) 27 (by rfl) w.heap.size 9 i1 (.string ⟨#[]⟩) 1 16 Tryd.underlying27 HI1 hz0 hz1 hz2 rfl (by decide) (.slice pv D.length cv) D.length (stv D) (by rfl) ((show wr.ownsRow w.heap.size 9 1 (.slice pv D.length cv) D.length (stv D) ∧ _ from HOW).1.alloc _) ⟨wr.heap.size, 0, none⟩ 1 1 [.string (bt (pc l a0 i))] (by rfl) rfl (qr_cells wr #[.string (bt (pc l a0 i))] 9 [.string (bt (pc l a0 i))] rfl) (by intro y hy; simp only [List.mem_cons, List.not_mem_nil, or_false] at hy; rcases hy with rfl; rfl) (by decide) (by unfold maxLen; omega) (by omega) (by rw [World.size_alloc]; have := (show _ ∧ _ from HOW).2.size; omega) (wr.heap.size + 1) (World.size_alloc _ _) ?_; intro g cap w8 hown1 hgrow1 hat hlt; have HN : Hid (w8.ownsRow w.heap.size 9 1 (.slice (some ⟨g, 0, none⟩) (D.length + 1) cap) (D ++ [(pc l a0 i)]).length (stv (D ++ [(pc l a0 i)])) ∧ Kb 0 w w8) := (⟨by rw [stv_app, List.length_append]; exact hown1, kb_app (show _ ∧ _ from HOW).2 (show wr.ownsRow w.heap.size 9 1 (.slice pv D.length cv) D.length (stv D) ∧ _ from HOW).1 (Nat.le_refl _) hgrow1⟩ : _ ∧ _); clear hown1 hgrow1 hat hlt HOW)
      go_roundw
      case rel => exact ⟨i + 1, i + 1, D ++ [pc l a0 i], by go_num, by go_num, by omega, Nat.le_refl _, (⟨HPN, HN⟩ : _ ∧ _)⟩
      case measure => simp [intOf]; omega
    · have e47 : ((b.toNat : Int) == 47) = false := by
        simp
        intro q
        apply h47
        apply UInt8.toNat_inj.1
        show b.toNat = 47
        omega
      have HPN : Hid (PI l a0 (i + 1) D) := hP.go hb h47
      clear ho hk hP hin hil hb h47
      go_wp2_with fail
      go_roundw
      case rel => exact ⟨i + 1, a0, D, rfl, by go_num, by omega, by omega, (⟨HPN, HOW⟩ : _ ∧ _)⟩
      case measure => simp [intOf]; omega
set_option maxHeartbeats 16000000 in
theorem sp_near (l : List UInt8) (hl : l.length ≤ 1048576) (w : World) : Calls Tryd.prog 21 #[.string (bt l)] w fun e w' => e = .returned (.bool (near l)) ∧ Kb 0 w w' := by
  have HP := sp_parts9 hl w
  have hp : 0 < (spB l).length := List.length_pos_iff.2 (spB_ne l)
  obtain ⟨p, r, hpr⟩ : ∃ p r, spB l = p :: r := by
    cases e : spB l with
    | nil => exact absurd e (spB_ne l)
    | cons p r => exact ⟨p, r, rfl⟩
  have hh : hdB l = p := by unfold hdB; rw [hpr]; rfl
  have hN : near l = ((p == [46]) || (p == [46, 46])) := by unfold near; rw [hh]
  obtain ⟨bn, hbn⟩ : ∃ bn, bn = near l := ⟨_, rfl⟩
  rw [← hbn]
  rw [hN] at hbn
  have HBN : Hid (bn = ((p == [46]) || (p == [46, 46]))) := hbn
  clear hbn
  have HS : Hid (stv (spB l) = .string (bt p) :: stv r ∧ (spB l).length = r.length + 1) := (⟨by rw [hpr]; rfl, by rw [hpr]; rfl⟩ : _ ∧ _)
  have ebl : (bt p).toList = p := bt_list p
  generalize spB l = S at HP hp HS
  clear hpr hh hN hl
  go_enter Tryd.func21, Tryd.ntmps21
  go_wp2_with fail
  refine HP.mono ?_
  rintro e x ⟨v, rfl, ho, kx⟩
  clear HP
  obtain ⟨g, c, rfl, hc⟩ := own_pos9 ho hp
  have d0 : x.cell? ⟨g, 0, none⟩ = some (.string (bt p)) := by
    have := ho.cellAt 0 (by rw [Nat.mul_one]; exact hp)
    rw [this, (show _ ∧ _ from HS).1]
    rfl
  have hnI : (0 : Int) < (S.length : Int) := by omega
  have hcI : (S.length : Int) ≤ (c : Int) := by omega
  have HK : Hid (Kb 0 w x) := kx
  clear ho kx hp hc HS
  by_cases q1 : p = [46]
  · subst q1
    obtain rfl : bn = true := (show bn = _ from HBN).trans (by decide)
    clear HBN
    go_wp2_with fail
    go_ret
    exact ⟨rfl, HK⟩
  have n1 : (p == [46]) = false := by simpa using q1
  by_cases q2 : p = [46, 46]
  · subst q2
    obtain rfl : bn = true := (show bn = _ from HBN).trans (by decide)
    clear HBN
    go_wp2_with fail
    go_ret
    exact ⟨rfl, HK⟩
  have n2 : (p == [46, 46]) = false := by simpa using q2
  obtain rfl : bn = false := (show bn = _ from HBN).trans (by rw [n1, n2]; rfl)
  clear HBN q1 q2
  go_wp2_with fail
  go_ret
  exact ⟨rfl, HK⟩
end Go.Proofs.YtgocahalfanpjaaDoor.Fo
