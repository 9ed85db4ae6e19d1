import Derived.Test.YtieccnkabllamaaNbh
namespace Go.Proofs.Ytieccnkabllamaa.Fo
open Go.ChangeShapes Go.WideShapes Go.ChangeAt Go.RowKit
set_option linter.unusedVariables false
set_option maxRecDepth 100000
set_option maxHeartbeats 8000000 in
theorem eq_fns {va vb : Value} {n : Nat} {F : Nat → Fd} (w : World) (ha : RowF 0 w va n F) (hb : RowF 0 w vb n F) (hn : n ≤ 1048576) (hF : ∀ i, i < n → (F i).p ≤ 1048576 ∧ (F i).u ≤ 1048576 ∧ (F i).n ≤ 1048576 ∧ ∀ j, j < (F i).n → ((F i).N j).p ≤ 1048576 ∧ ((F i).N j).q ≤ 1048576 ∧ ((F i).N j).a.g < 18446744073709551616) :
    Calls Try.prog 30 #[va, vb] w fun e w' => e = .returned (.bool true) ∧ Kb 0 w w' := by
  obtain ⟨pa, ca, rfl, ha2⟩ := ha
  obtain ⟨pb, cb, rfl, hb2⟩ := hb
  have HA : Hid ((0 < n → ∃ a : Addr, pa = some a ∧ n ≤ ca ∧ 0 ≤ a.block ∧ ∀ i, i < n → FnC 0 w (a.add (i * 7)) (F i)) ∧ (0 < n → ∃ a : Addr, pb = some a ∧ n ≤ cb ∧ 0 ≤ a.block ∧ ∀ i, i < n → FnC 0 w (a.add (i * 7)) (F i)) ∧ (∀ i, i < n → (F i).p ≤ 1048576 ∧ (F i).u ≤ 1048576 ∧ (F i).n ≤ 1048576 ∧ ∀ j, j < (F i).n → ((F i).N j).p ≤ 1048576 ∧ ((F i).N j).q ≤ 1048576 ∧ ((F i).N j).a.g < 18446744073709551616)) := (⟨ha2, hb2, hF⟩ : _ ∧ _)
  have hnI : (n : Int) ≤ 1048576 := by omega
  clear ha2 hb2 hn hF
  go_enter Try.func30, Try.ntmps30
  go_wp2_with fail
  go_loopw [5] (fun s5 wr => ∃ i : Nat, s5 = .int .i64 (i : Int) ∧ i ≤ n ∧ Hid (Kb 0 w wr)) (fun s5 _ => n - (intOf s5).toNat)
  case atStart => exact ⟨0, rfl, Nat.zero_le _, Kb.refl _ _⟩
  case round =>
    obtain ⟨i, rfl, hin, HB⟩ := hrel
    rcases Nat.lt_or_ge i n with hi | hi
    · have hA := (show (0 < n → ∃ a : Addr, pa = some a ∧ n ≤ ca ∧ 0 ≤ a.block ∧ ∀ i, i < n → FnC 0 w (a.add (i * 7)) (F i)) ∧ (0 < n → ∃ a : Addr, pb = some a ∧ n ≤ cb ∧ 0 ≤ a.block ∧ ∀ i, i < n → FnC 0 w (a.add (i * 7)) (F i)) ∧ (∀ i, i < n → (F i).p ≤ 1048576 ∧ (F i).u ≤ 1048576 ∧ (F i).n ≤ 1048576 ∧ ∀ j, j < (F i).n → ((F i).N j).p ≤ 1048576 ∧ ((F i).N j).q ≤ 1048576 ∧ ((F i).N j).a.g < 18446744073709551616) from HA)
      obtain ⟨qa, rfl, hca, -, hra⟩ := hA.1 (by omega)
      obtain ⟨qb, rfl, hcb, -, hrb⟩ := hA.2.1 (by omega)
      have hiI : (i : Int) < (n : Int) := by omega
      obtain ⟨vv, vu, vn, ca, h1, h2, h3⟩ := (hra i hi).keep (Nat.zero_le _) HB
      obtain ⟨uv, uu, un, cb, h4, h5, h6⟩ := (hrb i hi).keep (Nat.zero_le _) HB
      obtain ⟨y1, y2, y3, y4⟩ := hA.2.2 i hi
      have heq : ∀ W', Kb 0 wr W' → Calls Try.prog 55 #[fnv (F i) vv vu vn, fnv (F i) uv uu un] W' fun e w' => e = .returned (.bool true) ∧ Kb 0 W' w' := fun W' k => eq_fn W' (fun W k2 => eq_strs' W (h1.keep (k.trans k2)) (h4.keep (k.trans k2)) y1) (fun W k2 => eq_ups W (h2.keep (k.trans k2)) (h5.keep (k.trans k2)) y2) (fun W k2 => eq_nodes W (h3.keep (k.trans k2)) (h6.keep (k.trans k2)) y3 y4)
      replace heq : ∀ W', W'.heap = wr.heap → W'.os = wr.os → W'.output = wr.output → Calls Try.prog 55 #[fnv (F i) vv vu vn, fnv (F i) uv uu un] W' fun e w' => e = .returned (.bool true) ∧ Kb 0 wr w' := fun W' h0 h1 h2 => by
        have kk : Kb 0 wr W' := ⟨h1, h2, by rw [h0]; exact Nat.le_refl _, fun k _ _ => by rw [h0]⟩
        refine (heq W' kk).mono ?_
        rintro e w' ⟨rfl, k⟩
        exact ⟨rfl, kk.trans k⟩
      obtain ⟨a0, a1, a2, a3, a4, a5, a6⟩ := ca
      obtain ⟨b0, b1, b2, b3, b4, b5, b6⟩ := cb
      clear hra hrb hA HA h1 h2 h3 h4 h5 h6 y1 y2 y3 y4
      generalize F i = G at *
      obtain ⟨xx, xl, xm, xr, gp, gV, gu, gU, gn, gN⟩ := G
      unfold fnv at heq
      dsimp only at a0 a1 a2 a3 b0 b1 b2 b3 heq
      have HKEEP : Hid (∀ (W' : World), Kb 0 wr W' → W'.cell? (qa.add (i * 7)) = some (.string xx) ∧ W'.cell? ⟨(qa.add (i * 7)).block, (qa.add (i * 7)).off + 1, none⟩ = some (.int .i64 xl) ∧ W'.cell? ⟨(qa.add (i * 7)).block, (qa.add (i * 7)).off + 2, none⟩ = some (.int .i64 xm) ∧ W'.cell? ⟨(qa.add (i * 7)).block, (qa.add (i * 7)).off + 3, none⟩ = some (.bool xr) ∧ W'.cell? ⟨(qa.add (i * 7)).block, (qa.add (i * 7)).off + 4, none⟩ = some (vv) ∧ W'.cell? ⟨(qa.add (i * 7)).block, (qa.add (i * 7)).off + 5, none⟩ = some (vu) ∧ W'.cell? ⟨(qa.add (i * 7)).block, (qa.add (i * 7)).off + 6, none⟩ = some (vn) ∧ W'.cell? (qb.add (i * 7)) = some (.string xx) ∧ W'.cell? ⟨(qb.add (i * 7)).block, (qb.add (i * 7)).off + 1, none⟩ = some (.int .i64 xl) ∧ W'.cell? ⟨(qb.add (i * 7)).block, (qb.add (i * 7)).off + 2, none⟩ = some (.int .i64 xm) ∧ W'.cell? ⟨(qb.add (i * 7)).block, (qb.add (i * 7)).off + 3, none⟩ = some (.bool xr) ∧ W'.cell? ⟨(qb.add (i * 7)).block, (qb.add (i * 7)).off + 4, none⟩ = some (uv) ∧ W'.cell? ⟨(qb.add (i * 7)).block, (qb.add (i * 7)).off + 5, none⟩ = some (uu) ∧ W'.cell? ⟨(qb.add (i * 7)).block, (qb.add (i * 7)).off + 6, none⟩ = some (un)) := by
        show ∀ (W' : World), _
        intro W' k
        exact ⟨k.cell a0, k.cell a1, k.cell a2, k.cell a3, k.cell a4, k.cell a5, k.cell a6, k.cell b0, k.cell b1, k.cell b2, k.cell b3, k.cell b4, k.cell b5, k.cell b6⟩
      have HEQ : Hid (∀ W', W'.heap = wr.heap → W'.os = wr.os → W'.output = wr.output → Calls Try.prog 55 #[.agg #[.string xx, .int .i64 xl, .int .i64 xm, .bool xr, vv, vu, vn], .agg #[.string xx, .int .i64 xl, .int .i64 xm, .bool xr, uv, uu, un]] W' fun e w' => e = .returned (.bool true) ∧ Kb 0 wr w') := heq
      clear hin heq
      go_wp2_with fail
      go_region_held_law (fun W' => W'.cell? (qa.add (i * 7)) = some (.string xx) ∧ W'.cell? ⟨(qa.add (i * 7)).block, (qa.add (i * 7)).off + 1, none⟩ = some (.int .i64 xl) ∧ W'.cell? ⟨(qa.add (i * 7)).block, (qa.add (i * 7)).off + 2, none⟩ = some (.int .i64 xm) ∧ W'.cell? ⟨(qa.add (i * 7)).block, (qa.add (i * 7)).off + 3, none⟩ = some (.bool xr) ∧ W'.cell? ⟨(qa.add (i * 7)).block, (qa.add (i * 7)).off + 4, none⟩ = some (vv) ∧ W'.cell? ⟨(qa.add (i * 7)).block, (qa.add (i * 7)).off + 5, none⟩ = some (vu) ∧ W'.cell? ⟨(qa.add (i * 7)).block, (qa.add (i * 7)).off + 6, none⟩ = some (vn) ∧ W'.cell? (qb.add (i * 7)) = some (.string xx) ∧ W'.cell? ⟨(qb.add (i * 7)).block, (qb.add (i * 7)).off + 1, none⟩ = some (.int .i64 xl) ∧ W'.cell? ⟨(qb.add (i * 7)).block, (qb.add (i * 7)).off + 2, none⟩ = some (.int .i64 xm) ∧ W'.cell? ⟨(qb.add (i * 7)).block, (qb.add (i * 7)).off + 3, none⟩ = some (.bool xr) ∧ W'.cell? ⟨(qb.add (i * 7)).block, (qb.add (i * 7)).off + 4, none⟩ = some (uv) ∧ W'.cell? ⟨(qb.add (i * 7)).block, (qb.add (i * 7)).off + 5, none⟩ = some (uu) ∧ W'.cell? ⟨(qb.add (i * 7)).block, (qb.add (i * 7)).off + 6, none⟩ = some (un)) (first | exact ⟨a0, a1, a2, a3, a4, a5, a6, b0, b1, b2, b3, b4, b5, b6⟩ | exact (show ∀ (W' : World), _ from HKEEP) _ k5)
        ((go_at_call 55; refine ((show ∀ W', W'.heap = wr.heap → W'.os = wr.os → W'.output = wr.output → Calls Try.prog 55 #[.agg #[.string xx, .int .i64 xl, .int .i64 xm, .bool xr, vv, vu, vn], .agg #[.string xx, .int .i64 xl, .int .i64 xm, .bool xr, uv, uu, un]] W' fun e w' => e = .returned (.bool true) ∧ Kb 0 wr w' from HEQ) _ (by exact rfl) (by exact rfl) (by exact rfl)).mono ?_; rintro e w5 ⟨rfl, k5⟩))
      all_goals
        have HB5 : Hid (Kb 0 w w5) := (show Kb 0 w wr from HB).trans k5
        clear HB HKEEP HEQ k5 a0 a1 a2 a3 a4 a5 a6 b0 b1 b2 b3 b4 b5 b6
        go_wp2_with fail
        go_roundw
        case rel => exact ⟨i + 1, by go_num, by omega, HB5⟩
        case measure => simp [intOf]; omega
    · obtain rfl : i = n := by omega
      clear HA
      go_wp2_with fail
      go_ret
      exact ⟨rfl, HB⟩
end Go.Proofs.Ytieccnkabllamaa.Fo
