import Derived.Test.YtogenhnonjkanaaDoorMTka
namespace Go.Proofs.YtogenhnonjkanaaDoor
open Go.ChangeShapes Go.WideShapes Go.ChangeAt Go.RowKit
set_option linter.unusedVariables false
set_option maxRecDepth 100000 in
set_option maxHeartbeats 4000000 in
theorem name_ok (T : ByteArray) (L : List UInt8) (hT : T.data.toList = L) (hlen : L.length ≤ 40) (t : Tk) (ht : 0 < L.length → ∀ w, Calls Tryd.prog 15 #[.string T, .int .i64 0] w (NumP w t.kind 0 t.to t.num t.text)) (z : Bool) (hz : (0 < L.length ∧ isL (lk L 0) = true ∧ t.kind = 1 ∧ t.to = L.length ∧ z = true) ∨ (¬ (0 < L.length ∧ isL (lk L 0) = true ∧ t.kind = 1 ∧ t.to = L.length) ∧ z = false)) (w : World) :
    Calls Tryd.prog 20 #[.string T] w fun e w' => e = .returned (.bool z) ∧ Below w.heap.size w w' := by
  have hs : T.size = L.length := by rw [← hT]; simp
  by_cases h0 : L.length = 0
  · have hz0 : z = false := by
      rcases hz with h | h
      · omega
      · exact h.2
    have hT0 : (T.size : Int) = 0 := by omega
    subst hz0
    clear ht hz hT hlen hs h0
    go_enter Tryd.func20, Tryd.ntmps20
    go_wp2_with fail
    go_ret
    exact ⟨rfl, Below.refl _ _⟩
  · have hT0 : ((T.size : Int) == 0) = false := by rw [beq_eq_false_iff_ne]; omega
    have hTe : ¬ T = ByteArray.empty := fun g => by rw [g] at hs; exact h0 (by rw [← hs]; rfl)
    have hT40 : ¬ (40 : Int) < (T.size : Int) := by omega
    have hix : ∀ W : World, (Instr.index 9 (.string T) (.int .i64 0)).run Tryd.prog W = .ok (.int .u8 ((lk L 0).toNat : Int)) W := fun W => ix T L hT 0 _ (lk_at (show 0 < L.length by omega)) W
    have hp := spec_isL (lk L 0)
    cases hP : isL (lk L 0) with
    | false =>
      have hz0 : z = false := by
        rcases hz with h | h
        · rw [hP] at h; exact absurd h.2.1 (by decide)
        · exact h.2
      subst hz0
      rw [hP] at hp
      clear ht hz hT hlen hs h0 hP
      generalize ((lk L 0).toNat : Int) = x0 at *
      go_enter Tryd.func20, Tryd.ntmps20
      go_wp2_with fail
      refine (hp _).mono ?_
      rintro e w1 ⟨rfl, rfl⟩
      go_wp2_with fail
      go_ret
      exact ⟨rfl, Below.refl _ _⟩
    | true =>
      rw [hP] at hp
      have hrd := ht (by omega) w
      have HZ : Hid ((t.kind = 1 ∧ t.to = L.length ∧ z = true) ∨ (¬ (t.kind = 1 ∧ t.to = L.length) ∧ z = false)) := by
        rcases hz with h | h
        · exact .inl ⟨h.2.2.1, h.2.2.2.1, h.2.2.2.2⟩
        · exact .inr ⟨fun g => h.1 ⟨by omega, hP, g⟩, h.2⟩
      have HS : Hid (T.size = L.length) := hs
      clear ht hz hT hlen h0 hP hs
      generalize ((lk L 0).toNat : Int) = x0 at *
      go_enter Tryd.func20, Tryd.ntmps20
      go_wp2_with fail
      refine (hp _).mono ?_
      rintro e w1 ⟨rfl, hw1⟩
      rw [hw1]
      clear hp hw1
      go_wp2_with fail
      refine hrd.mono ?_
      rintro e w2 ⟨hb2, hy, hn⟩
      have HB : Hid (∀ x : Obj, Below w.heap.size w (w2.alloc x)) := (fun x => hb2.alloc hb2.size _ : ∀ x : Obj, Below w.heap.size w (w2.alloc x))
      by_cases hk0 : t.kind = 0
      · obtain ⟨a, b, c, d, m, tt, he⟩ := hn hk0
        subst he
        have hz0 : z = false := by
          rcases (show _ ∨ _ from HZ) with h | h
          · omega
          · exact h.2
        subst hz0
        have hto : ¬ (t.to : Int) < 0 := by omega
        clear hrd hb2 hy hn hk0 HZ
        generalize (t.to : Int) = tz at *
        unfold tokV
        go_wp2_with fail
        go_ret
        exact ⟨rfl, (show ∀ x : Obj, Below w.heap.size w (w2.alloc x) from HB) _⟩
      · have he := hy hk0
        subst he
        clear hrd hb2 hy hn hk0
        by_cases h1 : t.kind = 1
        · by_cases h2 : t.to = L.length
          · have hz1 : z = true := by
              rcases (show _ ∨ _ from HZ) with h | h
              · exact h.2.2
              · exact absurd ⟨h1, h2⟩ h.1
            subst hz1
            rw [h1, show (t.to : Int) = (T.size : Int) by rw [h2, show T.size = L.length from HS]]
            clear HZ h1 h2 HS
            unfold tokV
            go_wp2_with fail
            go_ret
            exact ⟨rfl, (show ∀ x : Obj, Below w.heap.size w (w2.alloc x) from HB) _⟩
          · have hz1 : z = false := by
              rcases (show _ ∨ _ from HZ) with h | h
              · exact absurd h.2.1 h2
              · exact h.2
            subst hz1
            have h3 : ((t.to : Int) == (T.size : Int)) = false := by rw [beq_eq_false_iff_ne, show T.size = L.length from HS]; omega
            rw [h1]
            clear HZ h1 h2
            generalize (t.to : Int) = tz at *
            unfold tokV
            go_wp2_with fail
            go_ret
            exact ⟨rfl, (show ∀ x : Obj, Below w.heap.size w (w2.alloc x) from HB) _⟩
        · have hz1 : z = false := by
            rcases (show _ ∨ _ from HZ) with h | h
            · exact absurd h.1 h1
            · exact h.2
          subst hz1
          have h3 : (t.kind == 1) = false := by simpa using h1
          clear HZ h1
          generalize t.kind = kk at *
          generalize (t.to : Int) = tz at *
          unfold tokV
          go_wp2_with fail
          go_ret
          exact ⟨rfl, (show ∀ x : Obj, Below w.heap.size w (w2.alloc x) from HB) _⟩
set_option maxRecDepth 100000 in
set_option maxHeartbeats 4000000 in
theorem name_ok_big (T : ByteArray) (h : (40 : Int) < (T.size : Int)) (w : World) : Calls Tryd.prog 20 #[.string T] w fun e w' => e = .returned (.bool false) ∧ Below w.heap.size w w' := by
  have h0 : ((T.size : Int) == 0) = false := by rw [beq_eq_false_iff_ne]; omega
  have hTe : ¬ T = ByteArray.empty := fun g => by rw [g] at h; exact absurd h (by decide)
  go_enter Tryd.func20, Tryd.ntmps20
  go_wp2_with fail
  go_ret
  exact ⟨rfl, Below.refl _ _⟩
set_option maxRecDepth 100000 in
set_option maxHeartbeats 4000000 in
theorem flt_ok (T : ByteArray) (L : List UInt8) (hT : T.data.toList = L) (hlen : L.length ≤ 40) (t : Tk) (ht : 0 < L.length → ∀ w, Calls Tryd.prog 15 #[.string T, .int .i64 0] w (NumP w t.kind 0 t.to t.num t.text)) (z : Bool) (hz : (0 < L.length ∧ isD (lk L 0) = true ∧ t.kind = 3 ∧ t.to = L.length ∧ z = true) ∨ (¬ (0 < L.length ∧ isD (lk L 0) = true ∧ t.kind = 3 ∧ t.to = L.length) ∧ z = false)) (w : World) :
    Calls Tryd.prog 22 #[.string T] w fun e w' => e = .returned (.bool z) ∧ Below w.heap.size w w' := by
  have hs : T.size = L.length := by rw [← hT]; simp
  by_cases h0 : L.length = 0
  · have hz0 : z = false := by
      rcases hz with h | h
      · omega
      · exact h.2
    have hT0 : (T.size : Int) = 0 := by omega
    subst hz0
    clear ht hz hT hlen hs h0
    go_enter Tryd.func22, Tryd.ntmps22
    go_wp2_with fail
    go_ret
    exact ⟨rfl, Below.refl _ _⟩
  · have hT0 : ((T.size : Int) == 0) = false := by rw [beq_eq_false_iff_ne]; omega
    have hTe : ¬ T = ByteArray.empty := fun g => by rw [g] at hs; exact h0 (by rw [← hs]; rfl)
    have hT40 : ¬ (40 : Int) < (T.size : Int) := by omega
    have hix : ∀ W : World, (Instr.index 9 (.string T) (.int .i64 0)).run Tryd.prog W = .ok (.int .u8 ((lk L 0).toNat : Int)) W := fun W => ix T L hT 0 _ (lk_at (show 0 < L.length by omega)) W
    have hp := spec_isD (lk L 0)
    cases hP : isD (lk L 0) with
    | false =>
      have hz0 : z = false := by
        rcases hz with h | h
        · rw [hP] at h; exact absurd h.2.1 (by decide)
        · exact h.2
      subst hz0
      rw [hP] at hp
      clear ht hz hT hlen hs h0 hP
      generalize ((lk L 0).toNat : Int) = x0 at *
      go_enter Tryd.func22, Tryd.ntmps22
      go_wp2_with fail
      refine (hp _).mono ?_
      rintro e w1 ⟨rfl, rfl⟩
      go_wp2_with fail
      go_ret
      exact ⟨rfl, Below.refl _ _⟩
    | true =>
      rw [hP] at hp
      have hrd := ht (by omega) w
      have HZ : Hid ((t.kind = 3 ∧ t.to = L.length ∧ z = true) ∨ (¬ (t.kind = 3 ∧ t.to = L.length) ∧ z = false)) := by
        rcases hz with h | h
        · exact .inl ⟨h.2.2.1, h.2.2.2.1, h.2.2.2.2⟩
        · exact .inr ⟨fun g => h.1 ⟨by omega, hP, g⟩, h.2⟩
      have HS : Hid (T.size = L.length) := hs
      clear ht hz hT hlen h0 hP hs
      generalize ((lk L 0).toNat : Int) = x0 at *
      go_enter Tryd.func22, Tryd.ntmps22
      go_wp2_with fail
      refine (hp _).mono ?_
      rintro e w1 ⟨rfl, hw1⟩
      rw [hw1]
      clear hp hw1
      go_wp2_with fail
      refine hrd.mono ?_
      rintro e w2 ⟨hb2, hy, hn⟩
      have HB : Hid (∀ x : Obj, Below w.heap.size w (w2.alloc x)) := (fun x => hb2.alloc hb2.size _ : ∀ x : Obj, Below w.heap.size w (w2.alloc x))
      by_cases hk0 : t.kind = 0
      · obtain ⟨a, b, c, d, m, tt, he⟩ := hn hk0
        subst he
        have hz0 : z = false := by
          rcases (show _ ∨ _ from HZ) with h | h
          · omega
          · exact h.2
        subst hz0
        have hto : ¬ (t.to : Int) < 0 := by omega
        clear hrd hb2 hy hn hk0 HZ
        generalize (t.to : Int) = tz at *
        unfold tokV
        go_wp2_with fail
        go_ret
        exact ⟨rfl, (show ∀ x : Obj, Below w.heap.size w (w2.alloc x) from HB) _⟩
      · have he := hy hk0
        subst he
        clear hrd hb2 hy hn hk0
        by_cases h1 : t.kind = 3
        · by_cases h2 : t.to = L.length
          · have hz1 : z = true := by
              rcases (show _ ∨ _ from HZ) with h | h
              · exact h.2.2
              · exact absurd ⟨h1, h2⟩ h.1
            subst hz1
            rw [h1, show (t.to : Int) = (T.size : Int) by rw [h2, show T.size = L.length from HS]]
            clear HZ h1 h2 HS
            unfold tokV
            go_wp2_with fail
            go_ret
            exact ⟨rfl, (show ∀ x : Obj, Below w.heap.size w (w2.alloc x) from HB) _⟩
          · have hz1 : z = false := by
              rcases (show _ ∨ _ from HZ) with h | h
              · exact absurd h.2.1 h2
              · exact h.2
            subst hz1
            have h3 : ((t.to : Int) == (T.size : Int)) = false := by rw [beq_eq_false_iff_ne, show T.size = L.length from HS]; omega
            rw [h1]
            clear HZ h1 h2
            generalize (t.to : Int) = tz at *
            unfold tokV
            go_wp2_with fail
            go_ret
            exact ⟨rfl, (show ∀ x : Obj, Below w.heap.size w (w2.alloc x) from HB) _⟩
        · have hz1 : z = false := by
            rcases (show _ ∨ _ from HZ) with h | h
            · exact absurd h.1 h1
            · exact h.2
          subst hz1
          have h3 : (t.kind == 3) = false := by simpa using h1
          clear HZ h1
          generalize t.kind = kk at *
          generalize (t.to : Int) = tz at *
          unfold tokV
          go_wp2_with fail
          go_ret
          exact ⟨rfl, (show ∀ x : Obj, Below w.heap.size w (w2.alloc x) from HB) _⟩
set_option maxRecDepth 100000 in
set_option maxHeartbeats 4000000 in
theorem flt_ok_big (T : ByteArray) (h : (40 : Int) < (T.size : Int)) (w : World) : Calls Tryd.prog 22 #[.string T] w fun e w' => e = .returned (.bool false) ∧ Below w.heap.size w w' := by
  have h0 : ((T.size : Int) == 0) = false := by rw [beq_eq_false_iff_ne]; omega
  have hTe : ¬ T = ByteArray.empty := fun g => by rw [g] at h; exact absurd h (by decide)
  go_enter Tryd.func22, Tryd.ntmps22
  go_wp2_with fail
  go_ret
  exact ⟨rfl, Below.refl _ _⟩
end Go.Proofs.YtogenhnonjkanaaDoor
