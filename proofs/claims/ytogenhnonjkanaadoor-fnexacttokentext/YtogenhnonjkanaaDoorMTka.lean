import Derived.Test.YtogenhnonjkanaaDoorMSed
namespace Go.Proofs.YtogenhnonjkanaaDoor
open Go.ChangeShapes Go.WideShapes Go.ChangeAt Go.RowKit
set_option linter.unusedVariables false
theorem kept_new (w : World) (x : Obj) : Rd.Kept w (w.alloc x) := Kb.kept (B := w.heap.size) (Kb.new _ _ _) (Nat.le_refl _)
set_option maxRecDepth 100000 in
set_option maxHeartbeats 4000000 in
theorem tok_big (T : ByteArray) (kk f t l nn : Int) (hs : (40 : Int) < (T.size : Int)) (w : World) :
    Calls Tryd.prog 25 #[.agg #[.int .i64 kk, .int .i64 f, .int .i64 t, .int .i64 l, .int .i64 nn, .string T], .int .i64 40] w fun e w' => e = .returned (.string ⟨#[]⟩) ∧ Rd.Kept w w' := by
  go_enter Tryd.func25, Tryd.ntmps25
  go_wp2_with fail
  go_ret
  exact ⟨rfl, kept_new _ _⟩
set_option maxRecDepth 100000 in
set_option maxHeartbeats 4000000 in
theorem impl_tok (T : ByteArray) (kk f t l nn : Int) (hs : ¬ (40 : Int) < (T.size : Int)) (o : Bool) (a : Int) (n : Nat) (A : Nat → Tv)
    (H6 : ∀ w, Gd w → Calls Tryd.prog 6 #[.string T] w fun e w' => Rd.Kept w w' ∧ ∃ v, e = .returned (.agg #[.bool o, .int .i64 a, v]) ∧ Own w' w.heap.size v n A) (R : ByteArray)
    (hR : (n = 1 ∧ (A 0).k = kk ∧ (A 0).x = T ∧ R = T) ∨ ((n = 1 → (A 0).k = kk → (A 0).x ≠ T) ∧ R = ⟨#[]⟩)) (w : World) (hg : Gd w) :
    Calls Tryd.prog 25 #[.agg #[.int .i64 kk, .int .i64 f, .int .i64 t, .int .i64 l, .int .i64 nn, .string T], .int .i64 40] w fun e w' => e = .returned (.string R) ∧ Rd.Kept w w' := by
  obtain ⟨W0, hW0, HK0, hc0, hc5⟩ : ∃ W0, W0 = w.alloc (.cells #[.int .i64 kk, .int .i64 f, .int .i64 t, .int .i64 l, .int .i64 nn, .string T] 33) ∧ Hid (∀ B, Kb B w W0) ∧ W0.cell? ⟨w.heap.size, 0, none⟩ = some (.int .i64 kk) ∧ W0.cell? ⟨w.heap.size, 5, none⟩ = some (.string T) :=
    ⟨_, rfl, (fun B => Kb.new B _ _ : ∀ B, Kb B w _), by simp, by simp⟩
  have h6 := H6 W0 (hg.kb (B := w.heap.size) hg.size (HK0 _))
  have HR : Hid ((n = 1 ∧ (A 0).k = kk ∧ (A 0).x = T ∧ R = T) ∨ ((n = 1 → (A 0).k = kk → (A 0).x ≠ T) ∧ R = ⟨#[]⟩)) := hR
  have hlt0 : w.heap.size < W0.heap.size := by rw [hW0]; simp
  clear H6 hR hg
  go_enter Tryd.func25, Tryd.ntmps25
  go_upto_region 1 with fail
  rw [← hW0]
  clear hW0
  go_wp2_with fail
  refine h6.mono ?_
  rintro e w2 ⟨hk2, v2, rfl, g, hr2, hf2⟩
  obtain ⟨p2, k2, hv2, hp2, hce⟩ := hr2
  subst hv2
  obtain ⟨W2, hW2, HK2, hq⟩ : ∃ W2, W2 = w2.alloc (.cells #[.bool o, .int .i64 a, .slice p2 n k2] 24) ∧ Hid (∀ B, Kb B w2 W2) ∧ Blk W2 w2.heap.size o a (.slice p2 n k2) := ⟨_, rfl, (fun B => Kb.new B _ _ : ∀ B, Kb B w2 _), Blk.new _ _ _ _⟩
  have HKW : Hid (∀ B, Kb B W0 W2) := (fun B => (Kb.of_kept hk2).trans (HK2 B) : ∀ B, Kb B W0 W2)
  have HEND : Hid (∀ m m', Rd.Kept w ((W2.drewN m).drewN m')) := (fun m m' => Kb.kept (B := w.heap.size) ((((HK0 _).trans (HKW _)).drewN m).drewN m') (Nat.le_refl _) : ∀ m m', Rd.Kept w ((W2.drewN m).drewN m'))
  have b0 : W2.cell? ⟨w.heap.size, 0, none⟩ = some (.int .i64 kk) := by rw [World.cell?_of_block ((HKW (w.heap.size + 1)).block w.heap.size hlt0 (by omega))]; exact hc0
  have b5 : W2.cell? ⟨w.heap.size, 5, none⟩ = some (.string T) := by rw [World.cell?_of_block ((HKW (w.heap.size + 1)).block w.heap.size hlt0 (by omega))]; exact hc5
  have q2 := hq.c2
  have HCE : Hid (0 < n → p2 = some ⟨g, 0, none⟩ ∧ n ≤ k2 ∧ W2.cell? ⟨g, 0, none⟩ = some (.int .i64 (A 0).k) ∧ W2.cell? ⟨g, 5, none⟩ = some (.string (A 0).x)) := (fun h0 => by
    have h1 := hp2 h0
    have h2 := (hce 0 h0).block ((HK2 (g + 1)).block g (hce 0 h0).lt (by omega))
    exact ⟨h1.1, h1.2, by simpa using h2.c0, by simpa using h2.c5⟩ : 0 < n → _)
  clear h6 hk2 hf2 hp2 hce hc0 hc5 HK2 HKW HK0 hq
  go_upto_region 4 with fail
  rw [← hW2]
  clear hW2
  by_cases h1 : n = 1
  · subst h1
    obtain ⟨rfl, hck, d0, d5⟩ := (show 0 < 1 → p2 = some ⟨g, 0, none⟩ ∧ 1 ≤ k2 ∧ W2.cell? ⟨g, 0, none⟩ = some (.int .i64 (A 0).k) ∧ W2.cell? ⟨g, 5, none⟩ = some (.string (A 0).x) from HCE) (by omega)
    clear HCE
    by_cases h2 : (A 0).k = kk
    · rw [h2] at d0
      by_cases h3 : (A 0).x = T
      · have HRR : Hid (R = T) := by
          rcases (show _ ∨ _ from HR) with ⟨_, _, _, h⟩ | ⟨h, _⟩
          · exact h
          · exact absurd h3 (h rfl h2)
        rw [h3] at d5
        clear HR h2 h3
        go_quiet (fail)
        go_wp2_with fail
        go_quiet (fail)
        go_wp2_with fail
        go_ret
        exact ⟨by rw [show R = T from HRR]; rfl, (show ∀ m m', Rd.Kept w ((W2.drewN m).drewN m') from HEND) _ 0⟩
      · have HRR : Hid (R = ⟨#[]⟩) := by
          rcases (show _ ∨ _ from HR) with ⟨_, _, h, _⟩ | ⟨_, h⟩
          · exact absurd h h3
          · exact h
        have hne : ((A 0).x.toList == T.toList) = false := by
          rw [cmp_list]
          apply Bool.eq_false_iff.2
          intro g
          apply h3
          have := eq_of_beq g
          exact ByteArray.ext (Array.toList_inj.1 this)
        clear HR h2 h3
        generalize (A 0).x = X at *
        go_quiet (fail)
        go_wp2_with fail
        go_quiet (fail)
        go_wp2_with fail
        go_ret
        exact ⟨by rw [show R = ⟨#[]⟩ from HRR]; rfl, (show ∀ m m', Rd.Kept w ((W2.drewN m).drewN m') from HEND) _ 0⟩
    · have HRR : Hid (R = ⟨#[]⟩) := by
        rcases (show _ ∨ _ from HR) with ⟨_, h, _⟩ | ⟨_, h⟩
        · exact absurd h h2
        · exact h
      have hne : ((A 0).k != kk) = true := by simpa using h2
      clear HR h2
      generalize (A 0).k = xk at *
      generalize (A 0).x = X at *
      go_quiet (fail)
      go_wp2_with fail
      go_ret
      exact ⟨by rw [show R = ⟨#[]⟩ from HRR]; rfl, (show ∀ m m', Rd.Kept w ((W2.drewN m).drewN m') from HEND) _ 0⟩
  · have HRR : Hid (R = ⟨#[]⟩) := by
      rcases (show _ ∨ _ from HR) with ⟨h, _⟩ | ⟨_, h⟩
      · exact absurd h h1
      · exact h
    have hne : ((n : Int) != 1) = true := by simp; omega
    clear HR h1 HCE
    go_quiet (fail)
    go_wp2_with fail
    go_ret
    exact ⟨by rw [show R = ⟨#[]⟩ from HRR]; rfl, (show ∀ m m', Rd.Kept w ((W2.drewN m).drewN m') from HEND) _ 0⟩
end Go.Proofs.YtogenhnonjkanaaDoor
