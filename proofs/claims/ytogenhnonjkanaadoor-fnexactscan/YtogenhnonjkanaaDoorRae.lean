import Derived.Test.YtogenhnonjkanaaDoorRad
namespace Go.Proofs.YtogenhnonjkanaaDoor.Rd
open Go.ChangeShapes Go.WideShapes Go.ChangeAt Go.RowKit Go.Proofs.YtogenhnonjkanaaDoor
set_option linter.unusedVariables false
/-- the scan lies in block B, the answer in block A -/
structure Sc (w0 : World) (A B : Nat) (T : ByteArray) (k : Int) (w : World) : Prop where
  gr : Grown w0 w
  hA : w0.heap.size ≤ A
  hB : w0.heap.size ≤ B
  hAB : A ≠ B
  a0 : w.cell? ⟨A, 0, none⟩ = some (.int .i64 0)
  a1 : w.cell? ⟨A, 1, none⟩ = some (.int .i64 0)
  b0 : w.cell? ⟨B, 0, none⟩ = some (.string T)
  b1 : w.cell? ⟨B, 1, none⟩ = some (.int .i64 k)
  fA0 : w.frozen? ⟨A, 0, none⟩ = false
  fA1 : w.frozen? ⟨A, 1, none⟩ = false
  fB1 : w.frozen? ⟨B, 1, none⟩ = false
theorem Sc.drewN {w0 : World} {A B : Nat} {T : ByteArray} {k : Int} {w : World} (h : Sc w0 A B T k w) (n : Nat) : Sc w0 A B T k (w.drewN n) :=
  ⟨h.gr, h.hA, h.hB, h.hAB, h.a0, h.a1, h.b0, h.b1, h.fA0, h.fA1, h.fB1⟩
theorem Sc.set {w0 : World} {A B : Nat} {T : ByteArray} {k : Int} {w : World} (h : Sc w0 A B T k w) (k' : Int) : Sc w0 A B T k' (w.setCell ⟨B, 1, none⟩ (.int .i64 k')) := by
  have hne := h.hAB
  refine ⟨Grown.setCell h.gr h.hB _, h.hA, h.hB, h.hAB, ?_, ?_, ?_, World.cell?_setCell_same _ _ _ h.b1, ?_, ?_, ?_⟩
  · rw [World.cell?_setCell_other _ _ _ _ (by simp <;> omega)]; exact h.a0
  · rw [World.cell?_setCell_other _ _ _ _ (by simp <;> omega)]; exact h.a1
  · rw [World.cell?_setCell_other _ _ _ _ (by simp)]; exact h.b0
  · rw [World.frozen?_setCell]; exact h.fA0
  · rw [World.frozen?_setCell]; exact h.fA1
  · rw [World.frozen?_setCell]; exact h.fB1
theorem ended_run (B : Nat) (T : ByteArray) (k : Int) (z : Bool) (hz : (k == (T.size : Int)) = z) (w : World) (b0 : w.cell? ⟨B, 0, none⟩ = some (.string T)) (b1 : w.cell? ⟨B, 1, none⟩ = some (.int .i64 k)) :
    Calls Tryd.prog 40 #[.pointer (some ⟨B, 0, none⟩)] w fun e w' => e = .returned (.bool z) ∧ ∃ m, w' = w.drewN m := by
  go_enter Tryd.func40, Tryd.ntmps40
  go_wp2
  go_quiet (fail)
  go_wp2
  go_ret
  exact ⟨rfl, nq, rfl⟩
theorem ended_in (B : Nat) (T : ByteArray) (k : Int) (z : Bool) (hz : (k == (T.size : Int)) = z) (w : World) (b0 : w.cell? ⟨B, 0, none⟩ = some (.string T)) (b1 : w.cell? ⟨B, 1, none⟩ = some (.int .i64 k)) (n : Nat) :
    Calls Tryd.prog 40 #[.pointer (some ⟨B, 0, none⟩)] (w.drewN n) fun e w' => e = .returned (.bool z) ∧ ∃ m, w' = w.drewN m :=
  Calls.quiet_of (ended_run B T k z hz (w.drewN n) b0 b1)
theorem take_end {w0 : World} {A B : Nat} {T : ByteArray} {k : Int} (c : Int) (hk : k = (T.size : Int)) (w : World) (h : Sc w0 A B T k w) :
    Calls Tryd.prog 56 #[.pointer (some ⟨B, 0, none⟩), .int .u8 c] w fun e w' => e = .returned (.bool false) ∧ Sc w0 A B T k w' := by
  have H21 := ended_in B T k true (by simpa using hk) w h.b0 h.b1
  have HS : Hid (Sc w0 A B T k w) := h
  have b0 := h.b0
  have b1 := h.b1
  clear h hk
  go_enter Tryd.func56, Tryd.ntmps56
  go_wp2_with fail
  go_quiet ((go_at_call 40; exact H21 _))
  go_wp2_with fail
  go_ret
  exact ⟨rfl, (show Sc w0 A B T k w from HS).drewN _⟩
theorem take_no {w0 : World} {A B : Nat} {T : ByteArray} {k : Nat} (c : Int) (x : UInt8) (hx : T.data.toList[k]? = some x) (hc : ((x.toNat : Int) == c) = false) (w : World) (h : Sc w0 A B T k w) :
    Calls Tryd.prog 56 #[.pointer (some ⟨B, 0, none⟩), .int .u8 c] w fun e w' => e = .returned (.bool false) ∧ Sc w0 A B T k w' := by
  have hlt : k < T.size := by have := (List.getElem?_eq_some_iff.1 hx).1; simpa using this
  have H21 := ended_in B T k false (by simp; omega) w h.b0 h.b1
  have HS : Hid (Sc w0 A B T k w) := h
  have b0 := h.b0
  have b1 := h.b1
  have hix := ix T _ rfl k x hx
  clear h hlt hx
  generalize (x.toNat : Int) = xi at *
  go_enter Tryd.func56, Tryd.ntmps56
  go_wp2_with fail
  go_quiet ((go_at_call 40; exact H21 _))
  go_wp2_with fail
  go_ret
  exact ⟨rfl, (show Sc w0 A B T k w from HS).drewN _⟩
theorem take_yes {w0 : World} {A B : Nat} {T : ByteArray} {k : Nat} (x : UInt8) (hlen : T.size ≤ 1200) (hx : T.data.toList[k]? = some x) (w : World) (h : Sc w0 A B T k w) :
    Calls Tryd.prog 56 #[.pointer (some ⟨B, 0, none⟩), .int .u8 (x.toNat : Int)] w fun e w' => e = .returned (.bool true) ∧ Sc w0 A B T ((k : Int) + 1) w' := by
  have hlt : k < T.size := by have := (List.getElem?_eq_some_iff.1 hx).1; simpa using this
  have H21 := ended_in B T k false (by simp; omega) w h.b0 h.b1
  have HS : Hid (Sc w0 A B T k w) := h
  have b0 := h.b0
  have b1 := h.b1
  have f1 := h.fB1
  have hix := ix T _ rfl k x hx
  have hk2 : (k : Int) < 1200 := by omega
  clear h hlt hx
  generalize (x.toNat : Int) = xi at *
  go_enter Tryd.func56, Tryd.ntmps56
  go_wp2_with fail
  go_quiet ((go_at_call 40; exact H21 _))
  go_wp2_with fail
  go_ret
  exact ⟨rfl, ((show Sc w0 A B T k w from HS).drewN _).set _⟩
theorem sign_run {w0 : World} {A B : Nat} {T : ByteArray} (hlen : T.size ≤ 1200) (j : Nat)
    (hj : (T.size = 0 ∧ j = 0) ∨ (T.data.toList[0]? = some 45 ∧ j = 1) ∨ (T.data.toList[0]? = some 43 ∧ j = 1) ∨ (∃ x, T.data.toList[0]? = some x ∧ x.toNat ≠ 45 ∧ x.toNat ≠ 43 ∧ j = 0)) (w : World) (h : Sc w0 A B T ((0 : Nat) : Int) w) :
    Calls Tryd.prog 79 #[.pointer (some ⟨B, 0, none⟩)] w fun e w' => (∃ z, e = .returned (.bool z)) ∧ Sc w0 A B T (j : Int) w' := by
  rcases hj with ⟨h0, rfl⟩ | ⟨h0, rfl⟩ | ⟨h0, rfl⟩ | ⟨x, h0, h1, h2, rfl⟩
  · have HT := fun c w h => take_end (w0 := w0) (A := A) (B := B) (T := T) (k := ((0 : Nat) : Int)) c (by omega) w h
    go_enter Tryd.func79, Tryd.ntmps79
    go_wp2_with fail
    refine (HT _ _ h).mono ?_
    rintro e w1 ⟨rfl, g1⟩
    go_wp2_with fail
    refine (HT _ _ g1).mono ?_
    rintro e w2 ⟨rfl, g2⟩
    go_wp2_with fail
    go_ret
    exact ⟨⟨_, rfl⟩, g2⟩
  · have HT : ∀ w, Sc w0 A B T ((0 : Nat) : Int) w → Calls Tryd.prog 56 #[.pointer (some ⟨B, 0, none⟩), .int .u8 45] w fun e w' => e = .returned (.bool true) ∧ Sc w0 A B T (((0 : Nat) : Int) + 1) w' := fun w h => take_yes (k := 0) 45 hlen h0 w h
    go_enter Tryd.func79, Tryd.ntmps79
    go_wp2_with fail
    refine (HT _ h).mono ?_
    rintro e w1 ⟨rfl, g1⟩
    clear h HT
    go_wp2_with fail
    go_ret
    exact ⟨⟨_, rfl⟩, g1⟩
  · have HN := fun w h => take_no (w0 := w0) (A := A) (B := B) (T := T) (k := 0) 45 43 h0 (by decide) w h
    have HT : ∀ w, Sc w0 A B T ((0 : Nat) : Int) w → Calls Tryd.prog 56 #[.pointer (some ⟨B, 0, none⟩), .int .u8 43] w fun e w' => e = .returned (.bool true) ∧ Sc w0 A B T (((0 : Nat) : Int) + 1) w' := fun w h => take_yes (k := 0) 43 hlen h0 w h
    go_enter Tryd.func79, Tryd.ntmps79
    go_wp2_with fail
    refine (HN _ h).mono ?_
    rintro e w1 ⟨rfl, g1⟩
    clear h HN
    go_wp2_with fail
    refine (HT _ g1).mono ?_
    rintro e w2 ⟨rfl, g2⟩
    clear g1 HT
    go_wp2_with fail
    go_ret
    exact ⟨⟨_, rfl⟩, g2⟩
  · have HN := fun w h => take_no (w0 := w0) (A := A) (B := B) (T := T) (k := 0) 45 x h0 (by simp; omega) w h
    have HM := fun w h => take_no (w0 := w0) (A := A) (B := B) (T := T) (k := 0) 43 x h0 (by simp; omega) w h
    go_enter Tryd.func79, Tryd.ntmps79
    go_wp2_with fail
    refine (HN _ h).mono ?_
    rintro e w1 ⟨rfl, g1⟩
    clear h HN
    go_wp2_with fail
    refine (HM _ g1).mono ?_
    rintro e w2 ⟨rfl, g2⟩
    clear g1 HM
    go_wp2_with fail
    go_ret
    exact ⟨⟨_, rfl⟩, g2⟩
/-- where the scan stands -/
def atOf (B : Nat) (w : World) : Nat := match w.cell? ⟨B, 1, none⟩ with
  | some (.int _ k) => k.toNat
  | _ => 0
theorem atOf_sc {w0 : World} {A B : Nat} {T : ByteArray} {k : Int} {w : World} (h : Sc w0 A B T k w) : atOf B w = k.toNat := by
  unfold atOf; rw [h.b1]
set_option maxRecDepth 100000 in
set_option maxHeartbeats 2000000 in
theorem digits_run {w0 : World} {A B : Nat} {T : ByteArray} (b : Nat) (hb2 : b ≤ 36) (hlen : T.size ≤ 1200) (k0 k1 : Nat) (h01 : k0 ≤ k1) (h1 : k1 ≤ T.size)
    (hgood : ∀ j, k0 ≤ j → j < k1 → ∃ x, T.data.toList[j]? = some x ∧ dw x < b)
    (hstop : k1 = T.size ∨ ∃ x, T.data.toList[k1]? = some x ∧ ¬ dw x < b) (w : World) (h : Sc w0 A B T (k0 : Int) w) :
    Calls Tryd.prog 77 #[.pointer (some ⟨B, 0, none⟩), .int .i64 (b : Int)] w fun e w' => e = .returned (.string (T.extract k0 k1)) ∧ Sc w0 A B T (k1 : Int) w' := by
  have HS : Hid (Sc w0 A B T k0 w) := h
  have b1 := h.b1
  clear h
  have HG : Hid (∀ j, k0 ≤ j → j < k1 → ∃ x, T.data.toList[j]? = some x ∧ dw x < b) := hgood
  have HP : Hid (k1 = T.size ∨ ∃ x, T.data.toList[k1]? = some x ∧ ¬ dw x < b) := hstop
  clear hgood hstop
  go_enter Tryd.func77, Tryd.ntmps77
  go_wp2_with fail
  clear b1
  go_loopw [] (fun wr => ∃ k : Nat, Hid (Sc w0 A B T (k : Int) wr) ∧ k0 ≤ k ∧ k ≤ k1) (fun wr => T.size - atOf B wr)
  case atStart => exact ⟨k0, HS, by omega, h01⟩
  case round =>
    clear HS
    obtain ⟨k, HS, hk0, hk1⟩ := hrel
    have hS := (show Sc w0 A B T (k : Int) wr from HS)
    have b0 := hS.b0
    have b1 := hS.b1
    have f1 := hS.fB1
    have hat := atOf_sc hS
    by_cases hlt : k < k1
    · obtain ⟨x, hx, hd⟩ := (show ∀ j, k0 ≤ j → j < k1 → ∃ x, T.data.toList[j]? = some x ∧ dw x < b from HG) k hk0 hlt
      have hix := ix T _ rfl k x hx
      have H21 := ended_in B T k false (by simp; omega) wr b0 b1
      have H26 := impl_dig x
      have hd2 : (dw x : Int) < (b : Int) := by omega
      have hk2 : (k : Int) < 1200 := by omega
      have HN : ∀ n, Sc w0 A B T ((k + 1 : Nat) : Int) ((wr.drewN n).setCell ⟨B, 1, none⟩ (.int .i64 ((k : Int) + 1))) := fun n => (hS.drewN n).set _
      have HN' : Hid (∀ n, Sc w0 A B T ((k + 1 : Nat) : Int) ((wr.drewN n).setCell ⟨B, 1, none⟩ (.int .i64 ((k : Int) + 1)))) := HN
      clear hS HS HG HP hx hd HN
      generalize (dw x : Int) = dd at *
      generalize (x.toNat : Int) = xi at *
      go_wp2_with fail
      go_quiet ((first | (go_at_call 40; exact H21 _) | (go_at_call 91; exact Calls.quiet_of_same (H26 _))))
      go_wp2_with fail
      have hN := (show ∀ n, Sc w0 A B T ((k + 1 : Nat) : Int) ((wr.drewN n).setCell ⟨B, 1, none⟩ (.int .i64 ((k : Int) + 1))) from HN') nq
      refine ⟨⟨k + 1, hN, by omega, by omega⟩, ?_⟩
      rw [atOf_sc hN, hat]
      omega
    · obtain rfl : k = k1 := by omega
      have hsl : ∀ W : World, (Instr.slice 9 (.string T) (some (.int .i64 (k0 : Int))) (some (.int .i64 (k : Int))) none).run Tryd.prog W = .ok (.string (T.extract k0 k)) W := by
        intro W
        rw [run_slice_string (P := Tryd.prog) W 9 T .i64 .i64 (k0 : Int) (k : Int) Tryd.underlying9 (by omega) (by omega) (by omega)]
        simp
      have HN' : Hid (∀ n, Sc w0 A B T (k : Int) (wr.drewN n)) := (fun n => hS.drewN n : ∀ n, Sc w0 A B T (k : Int) (wr.drewN n))
      rcases (show k = T.size ∨ ∃ x, T.data.toList[k]? = some x ∧ ¬ dw x < b from HP) with hst | ⟨x, hx, hd⟩
      · have H21 := ended_in B T k true (by simp; omega) wr b0 b1
        clear hS HS HG HP hst
        go_wp2_with fail
        go_quiet ((first | (go_at_call 40; exact H21 _)))
        go_wp2_with fail
        have hS2 := (show ∀ n, Sc w0 A B T (k : Int) (wr.drewN n) from HN') nq
        clear HN' b0 b1 f1 hat
        generalize wr.drewN nq = W at *
        have b0 := hS2.b0
        have b1 := hS2.b1
        have HS3 : Hid (Sc w0 A B T (k : Int) W) := hS2
        clear hS2
        go_quiet (fail)
        go_wp2_with fail
        go_ret
        exact ⟨rfl, (show Sc w0 A B T (k : Int) W from HS3).drewN _⟩
      · have hlt2 : k < T.size := by have := (List.getElem?_eq_some_iff.1 hx).1; simpa using this
        have hix := ix T _ rfl k x hx
        have H21 := ended_in B T k false (by simp; omega) wr b0 b1
        have H26 := impl_dig x
        have hd2 : ¬ (dw x : Int) < (b : Int) := by omega
        clear hS HS HG HP hx hd
        generalize (dw x : Int) = dd at *
        generalize (x.toNat : Int) = xi at *
        go_wp2_with fail
        go_quiet ((first | (go_at_call 40; exact H21 _) | (go_at_call 91; exact Calls.quiet_of_same (H26 _))))
        go_wp2_with fail
        have hS2 := (show ∀ n, Sc w0 A B T (k : Int) (wr.drewN n) from HN') nq
        clear HN' b0 b1 f1 hat
        generalize wr.drewN nq = W at *
        have b0 := hS2.b0
        have b1 := hS2.b1
        have HS3 : Hid (Sc w0 A B T (k : Int) W) := hS2
        clear hS2
        go_quiet (fail)
        go_wp2_with fail
        go_ret
        exact ⟨rfl, (show Sc w0 A B T (k : Int) W from HS3).drewN _⟩
end Go.Proofs.YtogenhnonjkanaaDoor.Rd
