import Derived.Test.YtgocahalfanpjaaDoorCnb
namespace Go.Proofs.YtgocahalfanpjaaDoor.Fo
open Go.ChangeShapes Go.WideShapes Go.ChangeAt Go.RowKit
set_option linter.unusedVariables false
set_option maxRecDepth 100000

def pc (l : List UInt8) (a i : Nat) : List UInt8 := (l.drop a).take (i - a)
theorem pc_nil (l : List UInt8) (i : Nat) : pc l i i = [] := by unfold pc; rw [Nat.sub_self]; rfl
theorem pc_succ {l : List UInt8} {a i : Nat} {b : UInt8} (h : a ≤ i) (hb : l[i]? = some b) : pc l a (i + 1) = pc l a i ++ [b] := by
  unfold pc
  rw [show i + 1 - a = (i - a) + 1 by omega, List.take_add_one, List.getElem?_drop, show a + (i - a) = i by omega, hb]
  rfl
theorem drop_at {l : List UInt8} {i : Nat} {b : UInt8} (hb : l[i]? = some b) : l.drop i = b :: l.drop (i + 1) := by
  obtain ⟨h, rfl⟩ := List.getElem?_eq_some_iff.1 hb
  exact List.drop_eq_getElem_cons h
theorem ix_bt {l : List UInt8} {i : Nat} {b : UInt8} (hb : l[i]? = some b) (W : World) : (Instr.index 9 (.string (bt l)) (.int .i64 (i : Int))).run Tryd.prog W = .ok (.int .u8 (b.toNat : Int)) W := by
  obtain ⟨h, rfl⟩ := List.getElem?_eq_some_iff.1 hb
  rw [run_index_string W 9 (bt l) .i64 (i : Int) Tryd.underlying9, dif_pos ⟨by omega, by rw [bt_size]; omega⟩]
  rfl
theorem sl_bt {l : List UInt8} {a i : Nat} (h : a ≤ i) (hi : i ≤ l.length) (W : World) : (Instr.slice 9 (.string (bt l)) (some (.int .i64 (a : Int))) (some (.int .i64 (i : Int))) none).run Tryd.prog W = .ok (.string (bt (pc l a i))) W := by
  rw [run_slice_string W 9 (bt l) .i64 .i64 (a : Int) (i : Int) Tryd.underlying9 (by omega) (by omega) (by rw [bt_size]; omega)]
  rw [Int.toNat_natCast, Int.toNat_natCast]
  unfold bt pc
  rw [ByteArray.extract_mk]
/-- between two rounds over the bytes -/
def PI (l : List UInt8) (a i : Nat) (D : List (List UInt8)) : Prop := (i ≤ l.length → a ≤ i ∧ D ++ att (pc l a i) (spB (l.drop i)) = spB l) ∧ (i = l.length + 1 → D = spB l) ∧ D.length ≤ i
theorem PI.start (l : List UInt8) : PI l 0 0 [] := ⟨fun _ => ⟨Nat.le_refl _, by rw [pc_nil, att_nil (spB_ne _)]; rfl⟩, fun h => by omega, Nat.le_refl _⟩
theorem PI.last {l : List UInt8} {a : Nat} {D : List (List UInt8)} (h : PI l a l.length D) : PI l (l.length + 1) (l.length + 1) (D ++ [pc l a l.length]) := by
  refine ⟨fun q => by omega, fun _ => ?_, by have := h.2.2; simp; omega⟩
  have e := (h.1 (Nat.le_refl _)).2
  rw [List.drop_length] at e
  rw [← e]
  show D ++ [pc l a l.length] = D ++ [pc l a l.length ++ []]
  rw [List.append_nil]
theorem PI.cut {l : List UInt8} {a i : Nat} {D : List (List UInt8)} (h : PI l a i D) (hb : l[i]? = some 47) : PI l (i + 1) (i + 1) (D ++ [pc l a i]) := by
  have hi := (List.getElem?_eq_some_iff.1 hb).1
  refine ⟨fun _ => ⟨Nat.le_refl _, ?_⟩, fun q => by omega, by have := h.2.2; simp; omega⟩
  have e := (h.1 (by omega)).2
  rw [drop_at hb, att_47] at e
  rw [pc_nil, att_nil (spB_ne _), ← e, List.append_assoc]
  rfl
theorem PI.go {l : List UInt8} {a i : Nat} {b : UInt8} {D : List (List UInt8)} (h : PI l a i D) (hb : l[i]? = some b) (h47 : b ≠ 47) : PI l a (i + 1) D := by
  have hi := (List.getElem?_eq_some_iff.1 hb).1
  have e := h.1 (by omega)
  refine ⟨fun _ => ⟨by omega, ?_⟩, fun q => by omega, by have := h.2.2; omega⟩
  have e2 := e.2
  rw [drop_at hb, att_b _ _ h47, ← pc_succ e.1 hb] at e2
  exact e2
set_option maxHeartbeats 16000000 in
theorem sp_parts {l : List UInt8} (hl : l.length ≤ 60) (w : World) :
    Calls Tryd.prog 16 #[.string (bt l)] w fun e w' => ∃ v, e = .returned v ∧ w'.ownsRow w.heap.size 9 1 v (spB l).length (stv (spB l)) ∧ Kb 0 w w' := by
  obtain ⟨i1, hi1, hz0, hz1, hz2⟩ := infoT
  have HI1 : Hid (Tryd.prog.info? 9 = some i1) := hi1
  have hlI : (l.length : Int) ≤ 60 := by omega
  have hsz : (bt l).size = l.length := bt_size l
  clear hi1 hl
  go_enter Tryd.func16, Tryd.ntmps16
  go_wp2_with fail
  go_loopw [3, 4, 5] (fun s3 s4 s5 wr => ∃ (i a0 : Nat) (D : List (List UInt8)), s4 = .int .i64 (a0 : Int) ∧ s5 = .int .i64 (i : Int) ∧ i ≤ l.length + 1 ∧ a0 ≤ i ∧ Hid (PI l a0 i D ∧ wr.ownsRow w.heap.size 9 1 s3 D.length (stv D) ∧ Kb 0 w wr)) (fun _ _ s5 _ => l.length + 1 - (intOf s5).toNat)
  case atStart => exact ⟨0, 0, [], rfl, rfl, Nat.zero_le _, Nat.le_refl _, (⟨PI.start l, World.ownsRow_nil _ _ _ _, Kb.refl _ _⟩ : _ ∧ _)⟩
  case round =>
    obtain ⟨i, a0, D, rfl, rfl, hil, hai, HX⟩ := hrel
    obtain ⟨hP, ho, hk⟩ := (show _ ∧ _ ∧ _ from HX)
    obtain ⟨pv, cv, rfl⟩ := own_shape ho
    clear HX
    by_cases hi : i = l.length + 1
    · have eD := hP.2.1 hi
      subst eD
      have hiI : ¬ (i : Int) ≤ (l.length : Int) := by omega
      have HE : Hid (wr.ownsRow w.heap.size 9 1 (.slice pv (spB l).length cv) (spB l).length (stv (spB l)) ∧ Kb 0 w wr) := (⟨ho, hk⟩ : _ ∧ _)
      clear ho hk HI1 hz0 hz1 hz2 hP hi
      go_wp2_with fail
      go_ret
      exact ⟨_, rfl, HE⟩
    have hiI : (i : Int) ≤ (l.length : Int) := by omega
    have HOW : Hid (wr.ownsRow w.heap.size 9 1 (.slice pv D.length cv) D.length (stv D) ∧ Kb 0 w wr) := (⟨ho, hk⟩ : _ ∧ _)
    have hDl : (D.length : Int) ≤ 61 := by have := hP.2.2; omega
    have hsl := fun W => sl_bt (l := l) (a := a0) (i := i) hai (by omega) W
    by_cases hin : i = l.length
    · have e1 : ((i : Int) == (l.length : Int)) = true := by simp; omega
      have HPN : Hid (PI l (i + 1) (i + 1) (D ++ [pc l a0 i])) := (by subst hin; exact hP.last : PI l (i + 1) (i + 1) (D ++ [pc l a0 i]))
      clear ho hk hP hi hin hil hai
      go_wp2_with (refine wpList_append_lies _ (by rfl) (.tmp 22) (.tmp 27) 27 (by rfl) w.heap.size 9 i1 (.string ⟨#[]⟩) 1 16 Tryd.underlying27 HI1 hz0 hz1 hz2 rfl (by decide) (.slice pv D.length cv) D.length (stv D) (by rfl) ((show wr.ownsRow w.heap.size 9 1 (.slice pv D.length cv) D.length (stv D) ∧ _ from HOW).1.alloc _) ⟨wr.heap.size, 0, none⟩ 1 1 [.string (bt (pc l a0 i))] (by rfl) rfl (qr_cells wr #[.string (bt (pc l a0 i))] 9 [.string (bt (pc l a0 i))] rfl) (by intro y hy; simp only [List.mem_cons, List.not_mem_nil, or_false] at hy; rcases hy with rfl; rfl) (by decide) (by unfold maxLen; omega) (by omega) (by rw [World.size_alloc]; have := (show _ ∧ _ from HOW).2.size; omega) (wr.heap.size + 1) (World.size_alloc _ _) ?_; intro g cap w8 hown1 hgrow1 hat hlt; have HN : Hid (w8.ownsRow w.heap.size 9 1 (.slice (some ⟨g, 0, none⟩) (D.length + 1) cap) (D ++ [(pc l a0 i)]).length (stv (D ++ [(pc l a0 i)])) ∧ Kb 0 w w8) := (⟨by rw [stv_app, List.length_append]; exact hown1, kb_app (show _ ∧ _ from HOW).2 (show wr.ownsRow w.heap.size 9 1 (.slice pv D.length cv) D.length (stv D) ∧ _ from HOW).1 (Nat.le_refl _) hgrow1⟩ : _ ∧ _); clear hown1 hgrow1 hat hlt HOW)
      go_roundw
      case rel => exact ⟨i + 1, i + 1, D ++ [pc l a0 i], by go_num, by go_num, by omega, Nat.le_refl _, (⟨HPN, HN⟩ : _ ∧ _)⟩
      case measure => simp [intOf]; omega
    have e1 : ((i : Int) == (l.length : Int)) = false := by simp; omega
    obtain ⟨b, hb⟩ : ∃ b, l[i]? = some b := ⟨_, List.getElem?_eq_getElem (by omega)⟩
    have hix := fun W => ix_bt hb W
    by_cases h47 : b = 47
    · subst h47
      have e47 : (((47 : UInt8).toNat : Int) == 47) = true := by decide
      have HPN : Hid (PI l (i + 1) (i + 1) (D ++ [pc l a0 i])) := hP.cut hb
      clear ho hk hP hi hin hil hai hb
      go_wp2_with (refine wpList_append_lies _ (by rfl) (.tmp 22) (.tmp 27) 27 (by rfl) w.heap.size 9 i1 (.string ⟨#[]⟩) 1 16 Tryd.underlying27 HI1 hz0 hz1 hz2 rfl (by decide) (.slice pv D.length cv) D.length (stv D) (by rfl) ((show wr.ownsRow w.heap.size 9 1 (.slice pv D.length cv) D.length (stv D) ∧ _ from HOW).1.alloc _) ⟨wr.heap.size, 0, none⟩ 1 1 [.string (bt (pc l a0 i))] (by rfl) rfl (qr_cells wr #[.string (bt (pc l a0 i))] 9 [.string (bt (pc l a0 i))] rfl) (by intro y hy; simp only [List.mem_cons, List.not_mem_nil, or_false] at hy; rcases hy with rfl; rfl) (by decide) (by unfold maxLen; omega) (by omega) (by rw [World.size_alloc]; have := (show _ ∧ _ from HOW).2.size; omega) (wr.heap.size + 1) (World.size_alloc _ _) ?_; intro g cap w8 hown1 hgrow1 hat hlt; have HN : Hid (w8.ownsRow w.heap.size 9 1 (.slice (some ⟨g, 0, none⟩) (D.length + 1) cap) (D ++ [(pc l a0 i)]).length (stv (D ++ [(pc l a0 i)])) ∧ Kb 0 w w8) := (⟨by rw [stv_app, List.length_append]; exact hown1, kb_app (show _ ∧ _ from HOW).2 (show wr.ownsRow w.heap.size 9 1 (.slice pv D.length cv) D.length (stv D) ∧ _ from HOW).1 (Nat.le_refl _) hgrow1⟩ : _ ∧ _); clear hown1 hgrow1 hat hlt HOW)
      go_roundw
      case rel => exact ⟨i + 1, i + 1, D ++ [pc l a0 i], by go_num, by go_num, by omega, Nat.le_refl _, (⟨HPN, HN⟩ : _ ∧ _)⟩
      case measure => simp [intOf]; omega
    · have e47 : ((b.toNat : Int) == 47) = false := by
        simp
        intro q
        apply h47
        apply UInt8.toNat_inj.1
        show b.toNat = 47
        omega
      have HPN : Hid (PI l a0 (i + 1) D) := hP.go hb h47
      clear ho hk hP hin hil hb h47
      go_wp2_with fail
      go_roundw
      case rel => exact ⟨i + 1, a0, D, rfl, by go_num, by omega, by omega, (⟨HPN, HOW⟩ : _ ∧ _)⟩
      case measure => simp [intOf]; omega
end Go.Proofs.YtgocahalfanpjaaDoor.Fo
