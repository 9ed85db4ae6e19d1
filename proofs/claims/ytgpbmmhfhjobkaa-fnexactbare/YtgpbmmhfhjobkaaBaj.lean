import Derived.Test.YtgpbmmhfhjobkaaBai
namespace Go.Proofs.Ytgpbmmhfhjobkaa
open Go.ChangeShapes Go.WideShapes Go.ChangeAt Go.RowKit
set_option linter.unusedVariables false
set_option maxRecDepth 100000 in
set_option maxHeartbeats 4000000 in
theorem eq_forms {va vb : Value} {n : Nat} {F : Nat → Gv} (w : World) (ha : RowF w va n F) (hb : RowF w vb n F) (hn : n ≤ 1048576) (hF : ∀ i, i < n → (F i).p ≤ 1048576 ∧ (F i).q ≤ 1048576) :
    Calls Try.prog 17 #[va, vb] w fun e w' => e = .returned (.bool true) ∧ Below w.heap.size w w' := by
  obtain ⟨qa, ca, rfl, ha2⟩ := ha
  obtain ⟨qb, cb, rfl, hb2⟩ := hb
  have HA : Hid ((0 < n → ∃ a : Addr, qa = some a ∧ n ≤ ca ∧ ∀ i, i < n → FormC w (a.add (i * 9)) (F i)) ∧ (0 < n → ∃ a : Addr, qb = some a ∧ n ≤ cb ∧ ∀ i, i < n → FormC w (a.add (i * 9)) (F i)) ∧ ∀ i, i < n → (F i).p ≤ 1048576 ∧ (F i).q ≤ 1048576) := (⟨ha2, hb2, hF⟩ : _ ∧ _ ∧ _)
  have hnI : (n : Int) ≤ 1048576 := by omega
  clear ha2 hb2 hn hF
  go_enter Try.func17, Try.ntmps17
  go_wp2_with fail
  go_loopw [5] (fun s5 wr => ∃ i : Nat, s5 = .int .i64 (i : Int) ∧ i ≤ n ∧ Hid (Below w.heap.size w wr)) (fun s5 _ => n - (intOf s5).toNat)
  case atStart => exact ⟨0, rfl, Nat.zero_le _, Below.refl _ _⟩
  case round =>
    obtain ⟨i, rfl, hin, HB⟩ := hrel
    rcases Nat.lt_or_ge i n with hi | hi
    · have hA := (show (0 < n → ∃ a : Addr, qa = some a ∧ n ≤ ca ∧ ∀ i, i < n → FormC w (a.add (i * 9)) (F i)) ∧ (0 < n → ∃ a : Addr, qb = some a ∧ n ≤ cb ∧ ∀ i, i < n → FormC w (a.add (i * 9)) (F i)) ∧ ∀ i, i < n → (F i).p ≤ 1048576 ∧ (F i).q ≤ 1048576 from HA)
      obtain ⟨pa, rfl, hca, hra⟩ := hA.1 (by omega)
      obtain ⟨pb, rfl, hcb, hrb⟩ := hA.2.1 (by omega)
      obtain ⟨y1, y2⟩ := hA.2.2 i hi
      have hiI : (i : Int) < (n : Int) := by omega
      obtain ⟨na, ka, ⟨a0, a1, a2, a3, a4, a5, a6, a7, a8⟩, hna, hka⟩ := (hra i hi).below HB
      obtain ⟨nb, kb, ⟨b0, b1, b2, b3, b4, b5, b6, b7, b8⟩, hnb, hkb⟩ := (hrb i hi).below HB
      have HQ : Hid (∀ W', Below wr.heap.size wr W' → Calls Try.prog 24 #[fmv (F i).a na ka, fmv (F i).a nb kb] W' fun e w' => e = .returned (.bool true) ∧ Below W'.heap.size W' w') := (fun W' hb => eq_form W' (hna.below hb) (hnb.below hb) (hka.below hb) (hkb.below hb) y1 y2 : ∀ W', _)
      have hla := lt_of_cell' a0
      have hlb := lt_of_cell' b0
      clear hA hra hrb HA hin y1 y2 hna hka hnb hkb
      generalize F i = G at *
      obtain ⟨⟨xk, xf, xt, xl, xo, xm, xx⟩, gp, gA, gq, gK⟩ := G
      unfold fmv at HQ
      dsimp only at a0 a1 a2 a3 a4 a5 a6 b0 b1 b2 b3 b4 b5 b6 HQ
      have heq : ∀ W', W'.heap = wr.heap → W'.os = wr.os → W'.tape = wr.tape → W'.output = wr.output → Calls Try.prog 24 #[.agg #[.int .i64 xk, .int .i64 xf, .int .i64 xt, .int .i64 xl, .int .i64 xo, .int .i64 xm, .string xx, na, ka], .agg #[.int .i64 xk, .int .i64 xf, .int .i64 xt, .int .i64 xl, .int .i64 xo, .int .i64 xm, .string xx, nb, kb]] W' fun e w' => e = .returned (.bool true) ∧ Below W'.heap.size W' w' :=
        fun W' h0 h1 h2 h3 => HQ W' ⟨h1, h2, h3, by rw [h0]; exact Nat.le_refl _, fun k _ => by rw [h0]⟩
      have HEQ : Hid (∀ W', W'.heap = wr.heap → W'.os = wr.os → W'.tape = wr.tape → W'.output = wr.output → Calls Try.prog 24 #[.agg #[.int .i64 xk, .int .i64 xf, .int .i64 xt, .int .i64 xl, .int .i64 xo, .int .i64 xm, .string xx, na, ka], .agg #[.int .i64 xk, .int .i64 xf, .int .i64 xt, .int .i64 xl, .int .i64 xo, .int .i64 xm, .string xx, nb, kb]] W' fun e w' => e = .returned (.bool true) ∧ Below W'.heap.size W' w') := heq
      have hkeep : ∀ (W0 W' : World), Below W0.heap.size W0 W' → W0.heap = wr.heap → (W'.cell? (pa.add (i * 9)) = some (.int .i64 xk) ∧ W'.cell? ⟨(pa.add (i * 9)).block, (pa.add (i * 9)).off + 1, none⟩ = some (.int .i64 xf) ∧ W'.cell? ⟨(pa.add (i * 9)).block, (pa.add (i * 9)).off + 2, none⟩ = some (.int .i64 xt) ∧ W'.cell? ⟨(pa.add (i * 9)).block, (pa.add (i * 9)).off + 3, none⟩ = some (.int .i64 xl) ∧ W'.cell? ⟨(pa.add (i * 9)).block, (pa.add (i * 9)).off + 4, none⟩ = some (.int .i64 xo) ∧ W'.cell? ⟨(pa.add (i * 9)).block, (pa.add (i * 9)).off + 5, none⟩ = some (.int .i64 xm) ∧ W'.cell? ⟨(pa.add (i * 9)).block, (pa.add (i * 9)).off + 6, none⟩ = some (.string xx) ∧ W'.cell? ⟨(pa.add (i * 9)).block, (pa.add (i * 9)).off + 7, none⟩ = some (na) ∧ W'.cell? ⟨(pa.add (i * 9)).block, (pa.add (i * 9)).off + 8, none⟩ = some (ka) ∧ W'.cell? (pb.add (i * 9)) = some (.int .i64 xk) ∧ W'.cell? ⟨(pb.add (i * 9)).block, (pb.add (i * 9)).off + 1, none⟩ = some (.int .i64 xf) ∧ W'.cell? ⟨(pb.add (i * 9)).block, (pb.add (i * 9)).off + 2, none⟩ = some (.int .i64 xt) ∧ W'.cell? ⟨(pb.add (i * 9)).block, (pb.add (i * 9)).off + 3, none⟩ = some (.int .i64 xl) ∧ W'.cell? ⟨(pb.add (i * 9)).block, (pb.add (i * 9)).off + 4, none⟩ = some (.int .i64 xo) ∧ W'.cell? ⟨(pb.add (i * 9)).block, (pb.add (i * 9)).off + 5, none⟩ = some (.int .i64 xm) ∧ W'.cell? ⟨(pb.add (i * 9)).block, (pb.add (i * 9)).off + 6, none⟩ = some (.string xx) ∧ W'.cell? ⟨(pb.add (i * 9)).block, (pb.add (i * 9)).off + 7, none⟩ = some (nb) ∧ W'.cell? ⟨(pb.add (i * 9)).block, (pb.add (i * 9)).off + 8, none⟩ = some (kb)) := by
        intro W0 W' hb he
        have ea : ∀ j, W'.cell? ⟨(pa.add (i * 9)).block, j, none⟩ = wr.cell? ⟨(pa.add (i * 9)).block, j, none⟩ := fun j => World.cell?_of_block (by rw [hb.block _ (by rw [he]; exact hla), he])
        have eb : ∀ j, W'.cell? ⟨(pb.add (i * 9)).block, j, none⟩ = wr.cell? ⟨(pb.add (i * 9)).block, j, none⟩ := fun j => World.cell?_of_block (by rw [hb.block _ (by rw [he]; exact hlb), he])
        have ea0 : W'.cell? (pa.add (i * 9)) = wr.cell? (pa.add (i * 9)) := World.cell?_of_block (by rw [hb.block _ (by rw [he]; exact hla), he])
        have eb0 : W'.cell? (pb.add (i * 9)) = wr.cell? (pb.add (i * 9)) := World.cell?_of_block (by rw [hb.block _ (by rw [he]; exact hlb), he])
        simp only [ea, eb, ea0, eb0]
        exact ⟨a0, a1, a2, a3, a4, a5, a6, a7, a8, b0, b1, b2, b3, b4, b5, b6, b7, b8⟩
      have HKEEP : Hid (∀ (W0 W' : World), Below W0.heap.size W0 W' → W0.heap = wr.heap → (W'.cell? (pa.add (i * 9)) = some (.int .i64 xk) ∧ W'.cell? ⟨(pa.add (i * 9)).block, (pa.add (i * 9)).off + 1, none⟩ = some (.int .i64 xf) ∧ W'.cell? ⟨(pa.add (i * 9)).block, (pa.add (i * 9)).off + 2, none⟩ = some (.int .i64 xt) ∧ W'.cell? ⟨(pa.add (i * 9)).block, (pa.add (i * 9)).off + 3, none⟩ = some (.int .i64 xl) ∧ W'.cell? ⟨(pa.add (i * 9)).block, (pa.add (i * 9)).off + 4, none⟩ = some (.int .i64 xo) ∧ W'.cell? ⟨(pa.add (i * 9)).block, (pa.add (i * 9)).off + 5, none⟩ = some (.int .i64 xm) ∧ W'.cell? ⟨(pa.add (i * 9)).block, (pa.add (i * 9)).off + 6, none⟩ = some (.string xx) ∧ W'.cell? ⟨(pa.add (i * 9)).block, (pa.add (i * 9)).off + 7, none⟩ = some (na) ∧ W'.cell? ⟨(pa.add (i * 9)).block, (pa.add (i * 9)).off + 8, none⟩ = some (ka) ∧ W'.cell? (pb.add (i * 9)) = some (.int .i64 xk) ∧ W'.cell? ⟨(pb.add (i * 9)).block, (pb.add (i * 9)).off + 1, none⟩ = some (.int .i64 xf) ∧ W'.cell? ⟨(pb.add (i * 9)).block, (pb.add (i * 9)).off + 2, none⟩ = some (.int .i64 xt) ∧ W'.cell? ⟨(pb.add (i * 9)).block, (pb.add (i * 9)).off + 3, none⟩ = some (.int .i64 xl) ∧ W'.cell? ⟨(pb.add (i * 9)).block, (pb.add (i * 9)).off + 4, none⟩ = some (.int .i64 xo) ∧ W'.cell? ⟨(pb.add (i * 9)).block, (pb.add (i * 9)).off + 5, none⟩ = some (.int .i64 xm) ∧ W'.cell? ⟨(pb.add (i * 9)).block, (pb.add (i * 9)).off + 6, none⟩ = some (.string xx) ∧ W'.cell? ⟨(pb.add (i * 9)).block, (pb.add (i * 9)).off + 7, none⟩ = some (nb) ∧ W'.cell? ⟨(pb.add (i * 9)).block, (pb.add (i * 9)).off + 8, none⟩ = some (kb))) := hkeep
      have HB2 : Hid (∀ (W0 W' : World), Below W0.heap.size W0 W' → (Below w.heap.size w wr → Below w.heap.size w W0) → Below w.heap.size w W') := (fun W0 W' h1 h2 => (h2 HB).trans (h1.mono (h2 HB).size) : ∀ (W0 W' : World), Below W0.heap.size W0 W' → (Below w.heap.size w wr → Below w.heap.size w W0) → Below w.heap.size w W')
      clear hkeep hla hlb HEQ HQ
      go_wp2_with fail
      go_region_held_law (fun W' => W'.cell? (pa.add (i * 9)) = some (.int .i64 xk) ∧ W'.cell? ⟨(pa.add (i * 9)).block, (pa.add (i * 9)).off + 1, none⟩ = some (.int .i64 xf) ∧ W'.cell? ⟨(pa.add (i * 9)).block, (pa.add (i * 9)).off + 2, none⟩ = some (.int .i64 xt) ∧ W'.cell? ⟨(pa.add (i * 9)).block, (pa.add (i * 9)).off + 3, none⟩ = some (.int .i64 xl) ∧ W'.cell? ⟨(pa.add (i * 9)).block, (pa.add (i * 9)).off + 4, none⟩ = some (.int .i64 xo) ∧ W'.cell? ⟨(pa.add (i * 9)).block, (pa.add (i * 9)).off + 5, none⟩ = some (.int .i64 xm) ∧ W'.cell? ⟨(pa.add (i * 9)).block, (pa.add (i * 9)).off + 6, none⟩ = some (.string xx) ∧ W'.cell? ⟨(pa.add (i * 9)).block, (pa.add (i * 9)).off + 7, none⟩ = some (na) ∧ W'.cell? ⟨(pa.add (i * 9)).block, (pa.add (i * 9)).off + 8, none⟩ = some (ka) ∧ W'.cell? (pb.add (i * 9)) = some (.int .i64 xk) ∧ W'.cell? ⟨(pb.add (i * 9)).block, (pb.add (i * 9)).off + 1, none⟩ = some (.int .i64 xf) ∧ W'.cell? ⟨(pb.add (i * 9)).block, (pb.add (i * 9)).off + 2, none⟩ = some (.int .i64 xt) ∧ W'.cell? ⟨(pb.add (i * 9)).block, (pb.add (i * 9)).off + 3, none⟩ = some (.int .i64 xl) ∧ W'.cell? ⟨(pb.add (i * 9)).block, (pb.add (i * 9)).off + 4, none⟩ = some (.int .i64 xo) ∧ W'.cell? ⟨(pb.add (i * 9)).block, (pb.add (i * 9)).off + 5, none⟩ = some (.int .i64 xm) ∧ W'.cell? ⟨(pb.add (i * 9)).block, (pb.add (i * 9)).off + 6, none⟩ = some (.string xx) ∧ W'.cell? ⟨(pb.add (i * 9)).block, (pb.add (i * 9)).off + 7, none⟩ = some (nb) ∧ W'.cell? ⟨(pb.add (i * 9)).block, (pb.add (i * 9)).off + 8, none⟩ = some (kb)) (first | exact ⟨a0, a1, a2, a3, a4, a5, a6, a7, a8, b0, b1, b2, b3, b4, b5, b6, b7, b8⟩ | exact (show ∀ (W0 W' : World), _ from HKEEP) _ _ hb5 rfl) ((go_at_call 24; refine (heq _ (by exact rfl) (by exact rfl) (by exact rfl) (by exact rfl)).mono ?_; rintro e w5 ⟨rfl, hb5⟩))
      all_goals
        have HB5 : Hid (Below w.heap.size w w5) := (show ∀ (W0 W' : World), Below W0.heap.size W0 W' → (Below w.heap.size w wr → Below w.heap.size w W0) → Below w.heap.size w W' from HB2) _ _ hb5 (fun h => ⟨h.os, h.tape, h.output, h.size, h.block⟩)
        clear HB HB2 HKEEP heq hb5 a0 a1 a2 a3 a4 a5 a6 a7 a8 b0 b1 b2 b3 b4 b5 b6 b7 b8
        go_wp2_with fail
        go_roundw
        case rel => exact ⟨i + 1, by go_num, by omega, HB5⟩
        case measure => simp [intOf]; omega
    · obtain rfl : i = n := by omega
      clear HA
      go_wp2_with fail
      go_ret
      exact ⟨rfl, HB⟩
end Go.Proofs.Ytgpbmmhfhjobkaa
