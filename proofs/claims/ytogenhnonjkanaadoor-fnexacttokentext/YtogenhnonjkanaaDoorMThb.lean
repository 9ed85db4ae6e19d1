import Derived.Test.YtogenhnonjkanaaDoorMTha
namespace Go.Proofs.YtogenhnonjkanaaDoor
open Go.ChangeShapes Go.WideShapes Go.ChangeAt Go.RowKit
set_option linter.unusedVariables false
set_option maxRecDepth 100000 in
set_option maxHeartbeats 1000000 in
theorem spec_nn (n : Nat) (hn : (n : Int) < 9223372036854775808) (w : World) : Calls Tryd.prog 21 #[.int .i64 (n : Int)] w fun e w' => e = .returned (.string ⟨(Fm.wrt 10 n).toArray⟩) ∧ Below w.heap.size w w' := by
  have h := spec_dec n hn w
  have h0 : (0 : Int) ≤ (n : Int) := by omega
  generalize (Fm.wrt 10 n).toArray = R at *
  clear hn
  go_enter Tryd.func21, Tryd.ntmps21
  go_wp2_with fail
  refine h.mono ?_
  rintro e w1 ⟨rfl, hb1⟩
  have HB : Hid (Below w.heap.size w w1) := hb1
  clear h hb1
  go_wp2_with fail
  go_ret
  exact ⟨rfl, HB⟩
theorem tt_any (k f t l n : Int) (x : ByteArray) (h0 : -9223372036854775808 ≤ n) (h1 : n ≤ 9223372036854775807) : ∃ R, TtC k f t l n x R := by
  by_cases k1 : k = 1
  · obtain ⟨R, ⟨z, hz, hR⟩, hi⟩ := txt_name x
    subst k1
    exact ⟨R, by rw [hR]; exact fun w => spec_tt1 1 _ (.inl ⟨rfl, rfl⟩) f t l n x z hz w, fun w hg => impl_tt1 1 (.inl rfl) f t l n x R (fun w hg => hi f t l n w hg) w hg⟩
  by_cases k3 : k = 3
  · obtain ⟨R, ⟨z, hz, hR⟩, hi⟩ := txt_flt x
    subst k3
    exact ⟨R, by rw [hR]; exact fun w => spec_tt1 3 _ (.inr ⟨rfl, rfl⟩) f t l n x z hz w, fun w hg => impl_tt1 3 (.inr rfl) f t l n x R (fun w hg => hi f t l n w hg) w hg⟩
  by_cases k4 : k = 4
  · subst k4
    exact ⟨qt x, fun w => spec_tt4 f t l n x _ (spec_qt x) w, fun w hg => impl_tt4 f t l n x _ (impl_qt x) w⟩
  by_cases k2 : k = 2
  · subst k2
    by_cases hn : n < 0
    · have hw : IntKind.u64.wrap n = n + 18446744073709551616 := by rw [IntKind.wrap_u64]; omega
      obtain ⟨U, hU⟩ : ∃ U : Nat, IntKind.u64.wrap n = (U : Int) := ⟨(n + 18446744073709551616).toNat, by rw [hw]; omega⟩
      have e16 : Fm.wrt 16 U = Fm.wr 16 U := by unfold Fm.wrt; rw [if_neg (by omega)]
      have hlen : (Fm.wr 16 U).length ≤ 64 := Fm.wr_len 16 (by decide) 64 _ (by omega)
      refine ⟨⟨#[48, 120]⟩ ++ ⟨(Fm.wr 16 U).toArray⟩, fun w => spec_tt2 f t l n x _ (spec_neg n hn U hU (by omega) (by omega)) w, fun w hg => impl_tt2n f t l n x _ hn (by show (Fm.wr 16 U).toArray.size ≤ 1000; simp; omega) (fun w hg => ?_) w hg⟩
      have := Fm.impl_bits n 16 (by decide) (by decide) (by decide) w hg.tab
      rw [hU, Int.toNat_natCast, e16] at this
      exact this
    · obtain ⟨m, rfl⟩ := Int.eq_ofNat_of_zero_le (show 0 ≤ n by omega)
      refine ⟨⟨(Fm.wrt 10 m).toArray⟩, fun w => spec_tt2 f t l _ x _ (spec_nn m (by omega)) w, fun w hg => impl_tt2 f t l _ x _ hn (fun w hg => ?_) w hg⟩
      have := Fm.impl_int (m : Int) 10 (by decide) (by decide) rfl h0 h1 w hg.pow
      rw [show Fm.wri 10 (m : Int) = Fm.wrt 10 m by unfold Fm.wri; rw [if_neg hn, Int.toNat_natCast]] at this
      exact this
  by_cases k7 : k = 7
  · subst k7
    exact ⟨⟨#[10]⟩, fun w => spec_tt7 f t l n x w, fun w hg => impl_tto 7 f t l n x k1 k2 k3 k4 w hg⟩
  · exact ⟨spl k, fun w => spec_tto k f t l n x k1 k2 k3 k4 k7 w, fun w hg => impl_tto k f t l n x k1 k2 k3 k4 w hg⟩
set_option maxRecDepth 100000 in
set_option maxHeartbeats 1000000 in
theorem sz_tok (k f t l n : Int) (x : ByteArray) (z : Int) (hz : (1048576 < (x.size : Int) ∧ z = -1) ∨ (¬ 1048576 < (x.size : Int) ∧ z = 1048576 - (x.size : Int))) (w : World) (hx : (x.size : Int) ≤ 9223372036854775807) :
    Calls Tryd.prog 10 #[.agg #[.int .i64 k, .int .i64 f, .int .i64 t, .int .i64 l, .int .i64 n, .string x], .int .i64 1048576] w fun e w' => e = .returned (.int .i64 z) ∧ Below w.heap.size w w' := by
  rcases hz with ⟨h, rfl⟩ | ⟨h, rfl⟩
  · have h2 : (1048576 : Int) - (x.size : Int) < 0 := by omega
    go_enter Tryd.func10, Tryd.ntmps10
    go_wp2_with fail
    go_ret
    exact ⟨rfl, (Below.refl _ w).alloc (Nat.le_refl _) _⟩
  · have h2 : ¬ (1048576 : Int) - (x.size : Int) < 0 := by omega
    go_enter Tryd.func10, Tryd.ntmps10
    go_wp2_with fail
    go_ret
    exact ⟨rfl, (Below.refl _ w).alloc (Nat.le_refl _) _⟩
set_option maxRecDepth 100000 in
set_option maxHeartbeats 1000000 in
theorem to_tok (k f t l n : Int) (x : ByteArray) (w : World) :
    Calls Tryd.prog 12 #[.agg #[.int .i64 k, .int .i64 f, .int .i64 t, .int .i64 l, .int .i64 n, .string x]] w fun e w' => e = .returned (.agg #[.int .i64 k, .int .i64 f, .int .i64 t, .int .i64 l, .int .i64 n, .string x]) ∧ Below w.heap.size w w' := by
  go_enter Tryd.func12, Tryd.ntmps12
  go_wp2_with fail
  refine bodyPost_ret (by simp [results, Tryd.results12, go_sem]; rfl) rfl ?_
  exact ⟨rfl, bel3 w _ _ _⟩
set_option maxRecDepth 100000 in
set_option maxHeartbeats 1000000 in
theorem law_tt (k f t l n : Int) (x : ByteArray) (h0 : -9223372036854775808 ≤ n) (h1 : n ≤ 9223372036854775807) (hx : (x.size : Int) ≤ 9223372036854775807) (w : World) (hg : Gt w) :
    Calls Tryd.prog 4 #[.agg #[.int .i64 k, .int .i64 f, .int .i64 t, .int .i64 l, .int .i64 n, .string x]] w fun e w' => e = .returned (.bool true) ∧ Rd.Kept w w' := by
  obtain ⟨W0, hW0, HK0, HC⟩ : ∃ W0, W0 = w.alloc (.cells #[.int .i64 k, .int .i64 f, .int .i64 t, .int .i64 l, .int .i64 n, .string x] 30) ∧ Hid (∀ B, Kb B w W0) ∧ Hid (W0.heap[w.heap.size]? = some (.cells #[.int .i64 k, .int .i64 f, .int .i64 t, .int .i64 l, .int .i64 n, .string x] 30 (0, 0))) :=
    ⟨_, rfl, (fun B => Kb.new B _ _ : ∀ B, Kb B w _), World.alloc_heap_new w _⟩
  have cells : ∀ W : World, W.heap[w.heap.size]? = some (.cells #[.int .i64 k, .int .i64 f, .int .i64 t, .int .i64 l, .int .i64 n, .string x] 30 (0, 0)) → W.cell? ⟨w.heap.size, 0, none⟩ = some (.int .i64 k) ∧ W.cell? ⟨w.heap.size, 1, none⟩ = some (.int .i64 f) ∧ W.cell? ⟨w.heap.size, 2, none⟩ = some (.int .i64 t) ∧ W.cell? ⟨w.heap.size, 3, none⟩ = some (.int .i64 l) ∧ W.cell? ⟨w.heap.size, 4, none⟩ = some (.int .i64 n) ∧ W.cell? ⟨w.heap.size, 5, none⟩ = some (.string x) := fun W h => by
    simp [World.cell?, h]
  have HCE : Hid (∀ W : World, W.heap[w.heap.size]? = some (.cells #[.int .i64 k, .int .i64 f, .int .i64 t, .int .i64 l, .int .i64 n, .string x] 30 (0, 0)) → W.cell? ⟨w.heap.size, 0, none⟩ = some (.int .i64 k) ∧ W.cell? ⟨w.heap.size, 1, none⟩ = some (.int .i64 f) ∧ W.cell? ⟨w.heap.size, 2, none⟩ = some (.int .i64 t) ∧ W.cell? ⟨w.heap.size, 3, none⟩ = some (.int .i64 l) ∧ W.cell? ⟨w.heap.size, 4, none⟩ = some (.int .i64 n) ∧ W.cell? ⟨w.heap.size, 5, none⟩ = some (.string x)) := cells
  have hlt : w.heap.size < W0.heap.size := by rw [hW0]; simp
  obtain ⟨c0, c1, c2, c3, c4, c5⟩ := cells W0 HC
  obtain ⟨z, hz⟩ : ∃ z : Int, (1048576 < (x.size : Int) ∧ z = -1) ∨ (¬ 1048576 < (x.size : Int) ∧ z = 1048576 - (x.size : Int)) := by
    by_cases h : 1048576 < (x.size : Int)
    · exact ⟨_, .inl ⟨h, rfl⟩⟩
    · exact ⟨_, .inr ⟨h, rfl⟩⟩
  have hsz := sz_tok k f t l n x z hz W0 hx
  obtain ⟨R, hsp, him⟩ := tt_any k f t l n x h0 h1
  have HT := fun W => to_tok k f t l n x W
  have HSP : Hid (∀ w, Calls Tryd.prog 11 #[.agg #[.int .i64 k, .int .i64 f, .int .i64 t, .int .i64 l, .int .i64 n, .string x]] w fun e w' => e = .returned (.string R) ∧ Below w.heap.size w w') := hsp
  have HIM : Hid (∀ w, Gt w → Calls Tryd.prog 13 #[.agg #[.int .i64 k, .int .i64 f, .int .i64 t, .int .i64 l, .int .i64 n, .string x]] w fun e w' => e = .returned (.string R) ∧ Rd.Kept w w') := him
  have HG : Hid (Gt w) := hg
  by_cases hbig : 1048576 < (x.size : Int)
  · have hz1 : z = -1 := by
      rcases hz with h | h
      · exact h.2
      · exact absurd hbig h.1
    subst hz1
    clear hz hsp him hg h0 h1 hx cells HT HSP HIM HG hbig
    go_enter Tryd.func4, Tryd.ntmps4
    go_upto_region 2 with fail
    rw [← hW0]
    clear hW0
    go_wp2_with fail
    refine hsz.mono ?_
    rintro e w1 ⟨rfl, hb1⟩
    have HE : Hid (Rd.Kept w w1) := Kb.kept (B := w.heap.size) ((HK0 _).trans (Kb.of_below hb1 (Nat.le_refl _))) (Nat.le_refl _)
    clear hsz hb1
    go_wp2_with fail
    go_ret
    exact ⟨rfl, HE⟩
  · have hz1 : ¬ z < 0 := by
      rcases hz with h | h
      · exact absurd h.1 hbig
      · omega
    clear hz hsp him hg h0 h1 hx cells hbig
    go_enter Tryd.func4, Tryd.ntmps4
    go_upto_region 2 with fail
    rw [← hW0]
    clear hW0
    go_wp2_with fail
    refine hsz.mono ?_
    rintro e w1 ⟨rfl, hb1⟩
    have HK1 : Hid (∀ B, Kb B W0 w1) := (fun B => Kb.of_below hb1 (Nat.le_refl _) : ∀ B, Kb B W0 w1)
    have hh1 : w1.heap[w.heap.size]? = some (.cells #[.int .i64 k, .int .i64 f, .int .i64 t, .int .i64 l, .int .i64 n, .string x] 30 (0, 0)) := ((HK1 (w.heap.size + 1)).block w.heap.size hlt (by omega)).trans HC
    clear hsz hb1 c0 c1 c2 c3 c4 c5
    obtain ⟨c0, c1, c2, c3, c4, c5⟩ := (show ∀ W : World, _ → _ from HCE) w1 hh1
    clear hh1
    go_wp2_with fail
    refine (HT _).mono ?_
    rintro e w2 ⟨rfl, hb2⟩
    have h11 := (show ∀ w, Calls Tryd.prog 11 #[.agg #[.int .i64 k, .int .i64 f, .int .i64 t, .int .i64 l, .int .i64 n, .string x]] w fun e w' => e = .returned (.string R) ∧ Below w.heap.size w w' from HSP) w2
    clear c0 c1 c2 c3 c4 c5
    go_wp2_with fail
    refine h11.mono ?_
    rintro e w3 ⟨rfl, hb3⟩
    have HK3 : Hid (∀ B, Kb B W0 w3) := (fun B => ((HK1 B).trans (Kb.of_below hb2 (Nat.le_refl _))).trans (Kb.of_below hb3 (Nat.le_refl _)) : ∀ B, Kb B W0 w3)
    have hh3 : w3.heap[w.heap.size]? = some (.cells #[.int .i64 k, .int .i64 f, .int .i64 t, .int .i64 l, .int .i64 n, .string x] 30 (0, 0)) := ((HK3 (w.heap.size + 1)).block w.heap.size hlt (by omega)).trans HC
    clear h11 hb2 hb3
    obtain ⟨c0, c1, c2, c3, c4, c5⟩ := (show ∀ W : World, _ → _ from HCE) w3 hh3
    clear hh3
    go_wp2_with fail
    refine (HT _).mono ?_
    rintro e w4 ⟨rfl, hb4⟩
    have HK4 : Hid (∀ B, Kb B w w4) := (fun B => ((HK0 B).trans (HK3 B)).trans (Kb.of_below hb4 (Nat.le_refl _)) : ∀ B, Kb B w w4)
    have h13 := (show ∀ w, Gt w → Calls Tryd.prog 13 #[.agg #[.int .i64 k, .int .i64 f, .int .i64 t, .int .i64 l, .int .i64 n, .string x]] w fun e w' => e = .returned (.string R) ∧ Rd.Kept w w' from HIM) w4 ((show Gt w from HG).kb (HK4 _))
    clear c0 c1 c2 c3 c4 c5 hb4 HT
    go_wp2_with fail
    refine h13.mono ?_
    rintro e w5 ⟨rfl, hk5⟩
    have HE : Hid (Rd.Kept w w5) := Kb.kept (B := w.heap.size) ((HK4 _).trans (Kb.of_kept hk5)) (Nat.le_refl _)
    clear h13 hk5
    go_wp2_with fail
    go_ret
    exact ⟨rfl, HE⟩
end Go.Proofs.YtogenhnonjkanaaDoor
