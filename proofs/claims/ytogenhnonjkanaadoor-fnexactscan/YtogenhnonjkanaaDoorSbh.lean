import Derived.Test.YtogenhnonjkanaaDoorSbg
import Derived.Test.YtogenhnonjkanaaDoorSda
namespace Go.Proofs.YtogenhnonjkanaaDoor
open Go.ChangeShapes Go.WideShapes Go.ChangeAt Go.RowKit
set_option linter.unusedVariables false
theorem sign_mv {B : Nat} {T : ByteArray} (L : List UInt8) (hT : T.data.toList = L) {k : Nat} {l : Int} {st : Bool} (hlen : T.size ≤ 65536) (hk : k ≤ L.length) (w : World) (h : Sb B T k l st w) :
    Calls Tryd.prog 79 #[.pointer (some ⟨B, 0, none⟩)] w fun e w' => (∃ z, e = .returned (.bool z)) ∧ Mv B T (sgn L k : Nat) l st w w' := by
  have hs : T.size = L.length := by rw [← hT]; simp
  by_cases h1 : L[k]? = some 45
  · have e : sgn L k = k + 1 := by unfold sgn; rw [if_pos (.inl (lk_some h1))]
    rw [e]
    have ht := take_mv 45 45 rfl true (k + 1) hlen (by omega) (by rw [hT]; exact .inl ⟨h1, rfl, rfl⟩) w h
    clear h e
    go_enter Tryd.func79, Tryd.ntmps79
    go_wp2_with fail
    refine ht.mono ?_
    rintro e w1 ⟨rfl, m1⟩
    clear ht
    go_wp2_with fail
    go_ret
    exact ⟨⟨_, rfl⟩, m1⟩
  · have ht := take_mv 45 45 rfl false k hlen (by omega) (by rw [hT]; exact .inr ⟨h1, rfl, rfl⟩) w h
    by_cases h2 : L[k]? = some 43
    · have e : sgn L k = k + 1 := by unfold sgn; rw [if_pos (.inr (lk_some h2))]
      rw [e]
      have ht2 := fun w1 (m1 : Mv B T (k : Int) l st w w1) => take_mv (k := k) 43 43 rfl true (k + 1) hlen (by omega) (by rw [hT]; exact .inl ⟨h2, rfl, rfl⟩) w1 m1.2
      clear h e
      go_enter Tryd.func79, Tryd.ntmps79
      go_wp2_with fail
      refine ht.mono ?_
      rintro e w1 ⟨rfl, m1⟩
      have hu := ht2 w1 m1
      clear ht ht2
      go_wp2_with fail
      refine hu.mono ?_
      rintro e w2 ⟨rfl, m2⟩
      clear hu
      go_wp2_with fail
      go_ret
      exact ⟨⟨_, rfl⟩, m1.trans m2⟩
    · have e : sgn L k = k := by
        unfold sgn
        rw [if_neg]
        rintro (g | g)
        · exact h1 ((lk_iff (by decide)).1 g)
        · exact h2 ((lk_iff (by decide)).1 g)
      rw [e]
      have ht2 := fun w1 (m1 : Mv B T (k : Int) l st w w1) => take_mv (k := k) 43 43 rfl false k hlen (by omega) (by rw [hT]; exact .inr ⟨h2, rfl, rfl⟩) w1 m1.2
      clear h e
      go_enter Tryd.func79, Tryd.ntmps79
      go_wp2_with fail
      refine ht.mono ?_
      rintro e w1 ⟨rfl, m1⟩
      have hu := ht2 w1 m1
      clear ht ht2
      go_wp2_with fail
      refine hu.mono ?_
      rintro e w2 ⟨rfl, m2⟩
      clear hu
      go_wp2_with fail
      go_ret
      exact ⟨⟨_, rfl⟩, m1.trans m2⟩
theorem sees_in {B : Nat} {T : ByteArray} {k : Nat} {l : Int} {st : Bool} (p : ByteArray) (z : Bool) (hk : k ≤ T.size) (hz : pre T.data.toList k p.data.toList = z) (w : World) (h : Sb B T k l st w) (n : Nat) :
    Calls Tryd.prog 62 #[.pointer (some ⟨B, 0, none⟩), .string p] (w.drewN n) fun e w' => e = .returned (.bool z) ∧ ∃ m, w' = w.drewN m := Calls.quiet_of (sees_run p z hk hz (w.drewN n) h)
set_option maxRecDepth 100000 in
set_option maxHeartbeats 2000000 in
theorem frac_mv {B : Nat} {T : ByteArray} (L : List UInt8) (hT : T.data.toList = L) {k : Nat} {l : Int} {st : Bool} (hlen : T.size ≤ 65536) (hk : k ≤ L.length) (z : Bool) (hz : frc L k = z) (w : World) (h : Sb B T k l st w) :
    Calls Tryd.prog 78 #[.pointer (some ⟨B, 0, none⟩)] w fun e w' => e = .returned (.bool z) ∧ Mv B T (k : Int) l st w w' := by
  have hs : T.size = L.length := by rw [← hT]; simp
  obtain ⟨M, hM, hLM, hkM⟩ : ∃ M : Int, M ≤ 65536 ∧ (L.length : Int) ≤ M ∧ (k : Int) ≤ M := ⟨L.length, by omega, Int.le_refl _, by omega⟩
  have hw : IntKind.i64.wrap ((k : Int) + 1) = (k : Int) + 1 := by simp only [IntKind.wrap, IntKind.bits, IntKind.signed]; simp; omega
  have b0 := h.c0
  have b1 := h.c1
  have HS : Hid (∀ n, Mv B T (k : Int) l st w (w.drewN n)) := (fun n => ⟨(Kb.refl B w).drewN n, h⟩ : ∀ n, Mv B T (k : Int) l st w (w.drewN n))
  by_cases h1 : L[k]? = some 46
  · have hse := sees_in ⟨#[46]⟩ true (by omega) (by rw [hT]; exact (pre_one L k 46).2 h1) w h
    have hkl : k < L.length := (List.getElem?_eq_some_iff.1 h1).1
    by_cases h2 : k + 1 < L.length
    · have hx := lk_at h2
      have ez : isD (lk L (k + 1)) = z := by rw [← hz]; unfold frc; rw [lk_some h1]; simp
      have hd := impl_isD (lk L (k + 1))
      rw [ez] at hd
      have hix := ix T L hT (k + 1) _ hx
      rw [show ((k + 1 : Nat) : Int) = (k : Int) + 1 by omega] at hix
      have hlt : decide ((k : Int) + 1 < (L.length : Int)) = true := by simp; omega
      clear h ez hx hz h1 h2 hT
      generalize ((lk L (k + 1)).toNat : Int) = xi at *
      go_enter Tryd.func78, Tryd.ntmps78
      go_wp2_with fail
      go_quiet ((first | (go_at_call 62; exact hse _) | (go_at_call 65; exact Calls.quiet_of_same (hd _))))
      go_wp2_with fail
      go_ret
      exact ⟨rfl, (show ∀ n, _ from HS) _⟩
    · have ez : z = false := by rw [← hz]; unfold frc; rw [lk_none (k := k + 1) (by omega), isD_zero]; simp
      have hlt : decide ((k : Int) + 1 < (L.length : Int)) = false := by simp; omega
      subst ez
      clear h hz h1 h2 hT
      go_enter Tryd.func78, Tryd.ntmps78
      go_wp2_with fail
      go_quiet ((first | (go_at_call 62; exact hse _)))
      go_wp2_with fail
      go_ret
      exact ⟨rfl, (show ∀ n, _ from HS) _⟩
  · have hse := sees_in ⟨#[46]⟩ false (by omega) (by rw [hT, Bool.eq_false_iff]; intro g; exact h1 ((pre_one L k 46).1 g)) w h
    have ez : z = false := by
      rw [← hz]; unfold frc
      have : (lk L k == 46) = false := by simp; intro g; exact h1 ((lk_iff (by decide)).1 g)
      rw [this]; rfl
    subst ez
    clear h hz h1 hT
    go_enter Tryd.func78, Tryd.ntmps78
    go_wp2_with fail
    go_quiet ((first | (go_at_call 62; exact hse _)))
    go_wp2_with fail
    go_ret
    exact ⟨rfl, (show ∀ n, _ from HS) _⟩
end Go.Proofs.YtogenhnonjkanaaDoor
