import Derived.Test.YtfpidccjcemcjaaUbc
import Derived.Deep.RegionHeldLaw
namespace Go.Proofs.Ytfpidccjcemcjaa
open Go.ChangeShapes Go.WideShapes Go.ChangeAt Go.RowKit
set_option linter.unusedVariables false
set_option maxRecDepth 100000
set_option maxHeartbeats 4000000 in
theorem eq_pairs {va vb : Value} {ga gb n : Nat} {F : Nat → Pv} (w : World) (ha : OwnP w va ga n F) (hb : OwnP w vb gb n F) (hn : n ≤ 1048576) (hF : ∀ i, i < n → (F i).a.g < 18446744073709551616 ∧ (F i).b.g < 18446744073709551616) :
    Calls Try.prog 44 #[va, vb] w fun e w' => e = .returned (.bool true) ∧ Kq w w' := by
  obtain ⟨pa, ca, rfl, ha2⟩ := ha.sl
  obtain ⟨pb, cb, rfl, hb2⟩ := hb.sl
  have HA : Hid ((0 < n → pa = some ⟨ga, 0, none⟩ ∧ n ≤ ca) ∧ (0 < n → pb = some ⟨gb, 0, none⟩ ∧ n ≤ cb)) := (⟨ha2, hb2⟩ : _ ∧ _)
  have HR : Hid ((∀ i, i < n → Cp w ⟨ga, i * 11, none⟩ (F i)) ∧ (∀ i, i < n → Cp w ⟨gb, i * 11, none⟩ (F i)) ∧ (∀ i, i < n → (F i).a.g < 18446744073709551616 ∧ (F i).b.g < 18446744073709551616)) := (⟨ha.ce, hb.ce, hF⟩ : _ ∧ _ ∧ _)
  have hnI : (n : Int) ≤ 1048576 := by omega
  clear ha2 hb2 hn ha hb hF
  go_enter Try.func44, Try.ntmps44
  go_wp2_with fail
  go_loopw [5] (fun s5 wr => ∃ i : Nat, s5 = .int .i64 (i : Int) ∧ i ≤ n ∧ Hid (Kq w wr)) (fun s5 _ => n - (intOf s5).toNat)
  case atStart => exact ⟨0, rfl, Nat.zero_le _, Kq.refl _⟩
  case round =>
    obtain ⟨i, rfl, hin, HB⟩ := hrel
    rcases Nat.lt_or_ge i n with hi | hi
    · obtain ⟨⟨rfl, hca⟩, ⟨rfl, hcb⟩⟩ : (pa = some ⟨ga, 0, none⟩ ∧ n ≤ ca) ∧ (pb = some ⟨gb, 0, none⟩ ∧ n ≤ cb) := ⟨HA.1 (by omega), HA.2 (by omega)⟩
      have hiI : (i : Int) < (n : Int) := by omega
      have hR := (show (∀ i, i < n → Cp w ⟨ga, i * 11, none⟩ (F i)) ∧ (∀ i, i < n → Cp w ⟨gb, i * 11, none⟩ (F i)) ∧ (∀ i, i < n → (F i).a.g < 18446744073709551616 ∧ (F i).b.g < 18446744073709551616) from HR)
      have qa := (hR.1 i hi).kq (show Kq w wr from HB)
      have qb := (hR.2.1 i hi).kq (show Kq w wr from HB)
      have heq := fun W => eq_pair (F i) (hR.2.2 i hi).1 (hR.2.2 i hi).2 W
      clear HA HR hin hR
      generalize F i = p at qa qb heq
      have hla := qa.lt
      have hlb := qb.lt
      obtain ⟨⟨k, m, g, x, r⟩, ⟨k2, m2, g2, x2, r2⟩, t⟩ := p
      obtain ⟨a0, a1, a2, a3, a4, a5, a6, a7, a8, a9, a10⟩ := qa
      obtain ⟨b0, b1, b2, b3, b4, b5, b6, b7, b8, b9, b10⟩ := qb
      unfold pv at heq
      dsimp only at a0 a1 a2 a3 a4 a5 a6 a7 a8 a9 a10 b0 b1 b2 b3 b4 b5 b6 b7 b8 b9 b10 heq hla hlb
      have HKEEP : Hid (∀ (W0 W' : World), Kq W0 W' → W0.heap = wr.heap → (W'.cell? ⟨ga, i * 11, none⟩ = some (.int .i64 k) ∧ W'.cell? ⟨ga, i * 11 + 1, none⟩ = some (.int .i64 m) ∧ W'.cell? ⟨ga, i * 11 + 2, none⟩ = some (.float .f64 g) ∧ W'.cell? ⟨ga, i * 11 + 3, none⟩ = some (.string x) ∧ W'.cell? ⟨ga, i * 11 + 4, none⟩ = some (.int .i64 r) ∧ W'.cell? ⟨ga, i * 11 + 5, none⟩ = some (.int .i64 k2) ∧ W'.cell? ⟨ga, i * 11 + 6, none⟩ = some (.int .i64 m2) ∧ W'.cell? ⟨ga, i * 11 + 7, none⟩ = some (.float .f64 g2) ∧ W'.cell? ⟨ga, i * 11 + 8, none⟩ = some (.string x2) ∧ W'.cell? ⟨ga, i * 11 + 9, none⟩ = some (.int .i64 r2) ∧ W'.cell? ⟨ga, i * 11 + 10, none⟩ = some (.int .i64 t) ∧ W'.cell? ⟨gb, i * 11, none⟩ = some (.int .i64 k) ∧ W'.cell? ⟨gb, i * 11 + 1, none⟩ = some (.int .i64 m) ∧ W'.cell? ⟨gb, i * 11 + 2, none⟩ = some (.float .f64 g) ∧ W'.cell? ⟨gb, i * 11 + 3, none⟩ = some (.string x) ∧ W'.cell? ⟨gb, i * 11 + 4, none⟩ = some (.int .i64 r) ∧ W'.cell? ⟨gb, i * 11 + 5, none⟩ = some (.int .i64 k2) ∧ W'.cell? ⟨gb, i * 11 + 6, none⟩ = some (.int .i64 m2) ∧ W'.cell? ⟨gb, i * 11 + 7, none⟩ = some (.float .f64 g2) ∧ W'.cell? ⟨gb, i * 11 + 8, none⟩ = some (.string x2) ∧ W'.cell? ⟨gb, i * 11 + 9, none⟩ = some (.int .i64 r2) ∧ W'.cell? ⟨gb, i * 11 + 10, none⟩ = some (.int .i64 t))) := by
        show ∀ (W0 W' : World), _
        intro W0 W' hb he
        have ea : ∀ j, W'.cell? ⟨ga, j, none⟩ = wr.cell? ⟨ga, j, none⟩ := fun j => World.cell?_of_block (by rw [hb.block ga (by rw [he]; exact hla), he])
        have eb : ∀ j, W'.cell? ⟨gb, j, none⟩ = wr.cell? ⟨gb, j, none⟩ := fun j => World.cell?_of_block (by rw [hb.block gb (by rw [he]; exact hlb), he])
        simp only [ea, eb]
        exact ⟨a0, a1, a2, a3, a4, a5, a6, a7, a8, a9, a10, b0, b1, b2, b3, b4, b5, b6, b7, b8, b9, b10⟩
      clear hla hlb
      go_wp2_with fail
      go_region_held_law (fun W' => W'.cell? ⟨ga, i * 11, none⟩ = some (.int .i64 k) ∧ W'.cell? ⟨ga, i * 11 + 1, none⟩ = some (.int .i64 m) ∧ W'.cell? ⟨ga, i * 11 + 2, none⟩ = some (.float .f64 g) ∧ W'.cell? ⟨ga, i * 11 + 3, none⟩ = some (.string x) ∧ W'.cell? ⟨ga, i * 11 + 4, none⟩ = some (.int .i64 r) ∧ W'.cell? ⟨ga, i * 11 + 5, none⟩ = some (.int .i64 k2) ∧ W'.cell? ⟨ga, i * 11 + 6, none⟩ = some (.int .i64 m2) ∧ W'.cell? ⟨ga, i * 11 + 7, none⟩ = some (.float .f64 g2) ∧ W'.cell? ⟨ga, i * 11 + 8, none⟩ = some (.string x2) ∧ W'.cell? ⟨ga, i * 11 + 9, none⟩ = some (.int .i64 r2) ∧ W'.cell? ⟨ga, i * 11 + 10, none⟩ = some (.int .i64 t) ∧ W'.cell? ⟨gb, i * 11, none⟩ = some (.int .i64 k) ∧ W'.cell? ⟨gb, i * 11 + 1, none⟩ = some (.int .i64 m) ∧ W'.cell? ⟨gb, i * 11 + 2, none⟩ = some (.float .f64 g) ∧ W'.cell? ⟨gb, i * 11 + 3, none⟩ = some (.string x) ∧ W'.cell? ⟨gb, i * 11 + 4, none⟩ = some (.int .i64 r) ∧ W'.cell? ⟨gb, i * 11 + 5, none⟩ = some (.int .i64 k2) ∧ W'.cell? ⟨gb, i * 11 + 6, none⟩ = some (.int .i64 m2) ∧ W'.cell? ⟨gb, i * 11 + 7, none⟩ = some (.float .f64 g2) ∧ W'.cell? ⟨gb, i * 11 + 8, none⟩ = some (.string x2) ∧ W'.cell? ⟨gb, i * 11 + 9, none⟩ = some (.int .i64 r2) ∧ W'.cell? ⟨gb, i * 11 + 10, none⟩ = some (.int .i64 t)) (first | exact ⟨a0, a1, a2, a3, a4, a5, a6, a7, a8, a9, a10, b0, b1, b2, b3, b4, b5, b6, b7, b8, b9, b10⟩ | exact (show ∀ (W0 W' : World), _ from HKEEP) _ _ (Kq.of_grown hb5) rfl) ((go_at_call 55; refine (heq _).mono ?_; rintro e w5 ⟨rfl, hb5⟩))
      all_goals
        have HB5 : Hid (Kq w w5) := (show Kq w wr from HB).trans (Kq.trans (Kq.drew (Kq.refl _)) (Kq.of_grown hb5))
        clear HB HKEEP hb5 a0 a1 a2 a3 a4 a5 a6 a7 a8 a9 a10 b0 b1 b2 b3 b4 b5 b6 b7 b8 b9 b10
        go_wp2_with fail
        go_roundw
        case rel => exact ⟨i + 1, by go_num, by omega, HB5⟩
        case measure => simp [intOf]; omega
    · obtain rfl : i = n := by omega
      clear HA HR
      go_wp2_with fail
      go_ret
      exact ⟨rfl, HB⟩
set_option maxHeartbeats 4000000 in
theorem eq_table {va vb : Value} {ga gb n : Nat} {F : Nat → Pv} (T : Int) (w : World) (ha : OwnP w va ga n F) (hb : OwnP w vb gb n F) (hn : n ≤ 1048576) (hF : ∀ i, i < n → (F i).a.g < 18446744073709551616 ∧ (F i).b.g < 18446744073709551616) :
    Calls Try.prog 18 #[.agg #[va, .int .i64 T], .agg #[vb, .int .i64 T]] w fun e w' => e = .returned (.bool true) ∧ Kq w w' := by
  have hs : Hid (∀ a b t, Calls Try.prog 44 #[va, vb] ((w.alloc (.cells a t)).alloc (.cells b t)) fun e w' => e = .returned (.bool true) ∧ Kq ((w.alloc (.cells a t)).alloc (.cells b t)) w') := (fun a b t => eq_pairs _ (ha.kq ((kq_alloc _ _ _).trans (kq_alloc _ _ _))) (hb.kq ((kq_alloc _ _ _).trans (kq_alloc _ _ _))) hn hF : ∀ a b t, _)
  obtain ⟨pa, ca, rfl, _⟩ := ha.sl
  obtain ⟨pb, cb, rfl, _⟩ := hb.sl
  clear hn hF ha hb
  have h1 : (T != T) = false := by simp
  go_enter Try.func18, Try.ntmps18
  go_wp2_with fail
  refine (hs _ _ _).mono ?_
  rintro e w1 ⟨rfl, hb⟩
  obtain ⟨w2, hw2⟩ : ∃ w2, w2 = (w.alloc (.cells #[.slice pa n ca, .int .i64 T] 40)).alloc (.cells #[.slice pb n cb, .int .i64 T] 40) := ⟨_, rfl⟩
  obtain ⟨a0, a1, z2, k2⟩ := two_new w _ _ _ _ w2 hw2
  rw [← hw2] at hb
  have c0 : w1.cell? ⟨w.heap.size, 1, none⟩ = some (.int .i64 T) := hb.cell (cell_of a0 rfl)
  have c1 : w1.cell? ⟨w.heap.size + 1, 1, none⟩ = some (.int .i64 T) := hb.cell (cell_of a1 rfl)
  have HB : Hid (Kq w w1) := k2.trans hb
  clear hb hs hw2 a0 a1 z2 k2
  go_wp2_with fail
  go_ret
  exact ⟨rfl, HB⟩
end Go.Proofs.Ytfpidccjcemcjaa
