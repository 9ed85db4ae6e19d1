import Derived.Deep.AppendLies
import Derived.Test.YtaggciimacanbaaMDca
namespace Go.Proofs.Ytaggciimacanbaa.Fo
open Go.ChangeShapes Go.WideShapes Go.ChangeAt Go.RowKit
set_option linter.unusedVariables false
set_option maxRecDepth 100000
set_option linter.unusedSimpArgs false
/-- bytes as cells -/
def bcl (A : Nat → Int) : Nat → List Value
  | 0 => []
  | n + 1 => bcl A n ++ [.int .u8 (A n)]
theorem bcl_len (A : Nat → Int) : ∀ n, (bcl A n).length = n
  | 0 => rfl
  | n + 1 => by rw [bcl, List.length_append, bcl_len A n]; rfl
theorem bcl_at (A : Nat → Int) : ∀ n j, j < n → (bcl A n)[j]? = some (.int .u8 (A j))
  | 0, j, h => by omega
  | n + 1, j, h => by
    rw [bcl]
    rcases Nat.lt_or_ge j n with q | q
    · rw [List.getElem?_append_left (by rw [bcl_len]; exact q)]
      exact bcl_at A n j q
    · obtain rfl : j = n := by omega
      rw [List.getElem?_append_right (by rw [bcl_len]; omega), bcl_len, Nat.sub_self]
      rfl
theorem own_bytes {W : World} {B : Nat} {v : Value} {n : Nat} {A : Nat → Int} (h : W.ownsRow B 5 1 v n (bcl A n)) : ∃ g, OwnR W v g n (ub A) ∧ (0 < n → B ≤ g ∧ g < W.heap.size) := by
  rcases Nat.eq_zero_or_pos n with hn | hn
  · subst hn
    obtain ⟨ad, cap, rfl⟩ := own_shape h
    exact ⟨0, ⟨⟨ad, cap, rfl, fun q => by omega⟩, fun i hi => by omega, fun q => by omega⟩, fun q => by omega⟩
  · obtain ⟨g, cap, rfl, hBg, hlt⟩ := h.form hn
    refine ⟨g, ⟨⟨_, _, rfl, fun _ => ⟨rfl, ?_⟩⟩, fun i hi => ?_, fun _ j => h.frozenAt j⟩, fun _ => ⟨hBg, hlt⟩⟩
    · obtain ⟨g', cap', e, _, q, _⟩ := own_cells h hn
      injection e with _ _ e3
      omega
    · rw [h.cellAt i (by omega)]
      exact bcl_at A n i hi
theorem infoU8 : ∃ i1, Try.prog.info? 5 = some i1 ∧ i1.zero = some (.int .u8 0) ∧ i1.size = 1 ∧ i1.bytes = 1 := ⟨Try.t5, by kernel_rfl, by kernel_rfl, by kernel_rfl, by kernel_rfl⟩
set_option maxHeartbeats 8000000 in
theorem sp_copy {va : Value} {n : Nat} {A : Nat → Int} (w : World) (ha : RowV w va n (ub A)) (hn : n ≤ 1048576) :
    Calls Try.prog 45 #[va] w fun e w' => ∃ v g, e = .returned v ∧ OwnR w' v g n (ub A) ∧ (0 < n → w.heap.size ≤ g ∧ g < w'.heap.size) ∧ Kb 0 w w' := by
  obtain ⟨pa, ca, rfl, ha2⟩ := ha
  obtain ⟨i1, hi1, hz0, hz1, hz2⟩ := infoU8
  have HI1 : Hid (Try.prog.info? 5 = some i1) := hi1
  have hnI : (n : Int) ≤ 1048576 := by omega
  have HA : Hid (0 < n → ∃ a : Addr, pa = some a ∧ n ≤ ca ∧ ∀ i, i < n → w.cell? (a.add i) = some (ub A i)) := ha2
  clear hi1 ha2 hn
  go_enter Try.func45, Try.ntmps45
  go_wp2_with fail
  go_loopw [3, 8] (fun s3 s8 wr => ∃ (i : Nat), s8 = .int .i64 (i : Int) ∧ i ≤ n ∧ Hid (wr.ownsRow w.heap.size 5 1 s3 i (bcl A i) ∧ Kb 0 w wr)) (fun _ s8 _ => n - (intOf s8).toNat)
  case atStart => exact ⟨0, rfl, Nat.zero_le _, (⟨World.ownsRow_nil _ _ _ _, Kb.refl _ _⟩ : _ ∧ _)⟩
  case round =>
    obtain ⟨i, rfl, hil, HX⟩ := hrel
    obtain ⟨ho, hk⟩ := (show _ ∧ _ from HX)
    obtain ⟨pv, cv, rfl⟩ := own_shape ho
    clear HX
    by_cases hi : i < n
    case neg =>
      obtain rfl : i = n := by omega
      obtain ⟨g, o1, o2⟩ := own_bytes ho
      have HE : Hid (OwnR wr (.slice pv i cv) g i (ub A) ∧ (0 < i → w.heap.size ≤ g ∧ g < wr.heap.size) ∧ Kb 0 w wr) := (⟨o1, o2, hk⟩ : _ ∧ _)
      clear ho hk o1 o2 HA HI1 hz0 hz1 hz2
      go_wp2_with fail
      go_ret
      exact ⟨_, g, rfl, HE⟩
    have hiI : (i : Int) < (n : Int) := by omega
    obtain ⟨a, rfl, hca, hra⟩ := (show 0 < n → _ from HA) (by omega)
    have d0 : wr.cell? (a.add i) = some (.int .u8 (A i)) := hk.cell (hra i hi)
    have HK : Hid (Kb 0 w wr) := hk
    have hsz := hk.size
    have HZ : Hid (w.heap.size ≤ wr.heap.size) := hsz
    have HOW : Hid (wr.ownsRow w.heap.size 5 1 (.slice pv i cv) i (bcl A i)) := ho
    clear hra hk ho hsz
    go_wp2_with (refine wpList_append_lies _ (by rfl) (.tmp 12) (.tmp 14) 26 (by rfl) w.heap.size 5 i1 (.int .u8 0) 1 1 Try.underlying26 HI1 hz0 hz1 hz2 rfl (by decide) (.slice pv i cv) i (bcl A i) (by rfl) ((show wr.ownsRow w.heap.size 5 1 (.slice pv i cv) i (bcl A i) from HOW).alloc _) ⟨wr.heap.size, 0, none⟩ 1 1 [.int .u8 (A i)] (by rfl) rfl (qr_cells wr #[.int .u8 (A i)] 5 [.int .u8 (A i)] rfl) (by intro y hy; simp only [List.mem_cons, List.not_mem_nil, or_false] at hy; rcases hy with rfl; rfl) (by decide) (by unfold maxLen; omega) (by omega) (by rw [World.size_alloc]; have := (show w.heap.size ≤ wr.heap.size from HZ); omega) (wr.heap.size + 1) (World.size_alloc _ _) ?_; intro g cap w8 hown1 hgrow1 hat hlt; have HN : Hid (w8.ownsRow w.heap.size 5 1 (.slice (some ⟨g, 0, none⟩) (i + 1) cap) (i + 1) (bcl A (i + 1)) ∧ Kb 0 w w8) := (⟨hown1, ⟨by rw [hgrow1.os]; exact (show Kb 0 w wr from HK).os, by rw [hgrow1.output]; exact (show Kb 0 w wr from HK).output, by have := hgrow1.size; rw [World.size_alloc] at this; have := (show Kb 0 w wr from HK).size; omega, fun q h1 h2 => by have := (show Kb 0 w wr from HK).size; exact ((hgrow1.block q (by rw [World.size_alloc]; omega) (fun e => by have := ((show wr.ownsRow w.heap.size 5 1 (.slice pv i cv) i (bcl A i) from HOW).lt q e.symm).1; omega)).trans ((kb_alloc 0 wr _).block q (Nat.zero_le _) (by omega))).trans ((show Kb 0 w wr from HK).block q h1 h2)⟩⟩ : _ ∧ _); clear hown1 hgrow1 hat hlt)
    go_roundw
    case rel => exact ⟨i + 1, by go_num, by omega, HN⟩
    case measure => simp [intOf]; omega
end Go.Proofs.Ytaggciimacanbaa.Fo
