import Derived.Test.YtfpidccjcemcjaaUcb
import Derived.Test.YtfpidccjcemcjaaUbc
namespace Go.Proofs.Ytfpidccjcemcjaa
open Go.ChangeShapes Go.WideShapes Go.ChangeAt Go.RowKit
set_option linter.unusedVariables false
set_option maxRecDepth 100000
theorem Ky.kok {v : Vv} {c : Int} {u : Vv} (h : Ky v c u) : kok v ↔ c = 0 ∧ u.k = v.k := by
  cases h with
  | bad ho => exact ⟨fun h => absurd h.1 ho, fun h => by omega⟩
  | nil ho k0 => exact ⟨fun h => absurd k0 h.2.1, fun h => by omega⟩
  | nan ho k3 hn => exact ⟨fun h => by { have q := (h.2.2 k3).1; rw [hn] at q; cases q }, fun h => by omega⟩
  | whole z ho k3 hw => exact ⟨fun h => absurd hw ((h.2.2 k3).2 z), fun h => by { have q := h.2; dsimp only at q; omega }⟩
  | flt ho k3 hn hw => exact ⟨fun _ => ⟨rfl, rfl⟩, fun _ => ⟨ho, by omega, fun _ => ⟨hn, hw⟩⟩⟩
  | oth ho k0 k3 => exact ⟨fun _ => ⟨rfl, rfl⟩, fun _ => ⟨ho, k0, fun h => absurd h k3⟩⟩
set_option maxHeartbeats 4000000 in
theorem sp_kok_c (v : Vv) (c uk um : Int) (ug : Nat) (ux : ByteArray) (ur : Int) (HK : ∀ w, Calls Try.prog 10 #[vv v] w fun e w' => e = .returned (va c ⟨uk, um, ug, ux, ur⟩) ∧ Kq w w') (hc : (c == 0) = false) (w : World) : Calls Try.prog 40 #[vv v] w fun e w' => e = .returned (.bool false) ∧ Kq w w' := by
  obtain ⟨k, m, g, x, r⟩ := v
  unfold vv at *
  unfold va at *
  dsimp only at *
  have hst : ∀ (a : Addr) (n : Nat) (m : Mode) (w : World), (store a (.float .f64 n) m).run Try.prog w = stored Try.prog w a (.float .f64 n) m := fun a n m w => run_store _ _ _ _ _ rfl
  go_enter Try.func40, Try.ntmps40
  go_wp2_with fail
  refine (HK _).mono ?_
  rintro e w1 ⟨rfl, g1⟩
  have G1 : Hid (Kq w w1) := Kq.trans (.of_grown (by go_grown)) g1
  have V1 := Vc.kq (Vc.new w k m g x r 26) g1
  have q0 := (V1.kq (kq_alloc _ #[.int .i64 c, .int .i64 uk, .int .i64 um, .float .f64 ug, .string ux, .int .i64 ur] 28)).c0
  dsimp only at q0
  have G2 : Hid (Kq w (w1.alloc (.cells #[.int .i64 c, .int .i64 uk, .int .i64 um, .float .f64 ug, .string ux, .int .i64 ur] 28))) := Kq.trans G1 (kq_alloc _ _ _)
  clear g1 V1 G1
  go_wp2_with fail
  go_ret
  exact ⟨by first | rfl | simp [*], G2⟩
set_option maxHeartbeats 4000000 in
theorem sp_kok_t (v : Vv) (c uk um : Int) (ug : Nat) (ux : ByteArray) (ur : Int) (HK : ∀ w, Calls Try.prog 10 #[vv v] w fun e w' => e = .returned (va c ⟨uk, um, ug, ux, ur⟩) ∧ Kq w w') (hc : c = 0) (hk : (uk == v.k) = true) (w : World) : Calls Try.prog 40 #[vv v] w fun e w' => e = .returned (.bool true) ∧ Kq w w' := by
  obtain ⟨k, m, g, x, r⟩ := v
  unfold vv at *
  unfold va at *
  dsimp only at *
  subst hc
  have hst : ∀ (a : Addr) (n : Nat) (m : Mode) (w : World), (store a (.float .f64 n) m).run Try.prog w = stored Try.prog w a (.float .f64 n) m := fun a n m w => run_store _ _ _ _ _ rfl
  go_enter Try.func40, Try.ntmps40
  go_wp2_with fail
  refine (HK _).mono ?_
  rintro e w1 ⟨rfl, g1⟩
  have G1 : Hid (Kq w w1) := Kq.trans (.of_grown (by go_grown)) g1
  have V1 := Vc.kq (Vc.new w k m g x r 26) g1
  have q0 := (V1.kq (kq_alloc _ #[.int .i64 0, .int .i64 uk, .int .i64 um, .float .f64 ug, .string ux, .int .i64 ur] 28)).c0
  dsimp only at q0
  have G2 : Hid (Kq w (w1.alloc (.cells #[.int .i64 0, .int .i64 uk, .int .i64 um, .float .f64 ug, .string ux, .int .i64 ur] 28))) := Kq.trans G1 (kq_alloc _ _ _)
  clear g1 V1 G1
  go_wp2_with fail
  go_ret
  exact ⟨by first | rfl | simp [*], G2⟩
set_option maxHeartbeats 4000000 in
theorem sp_kok_f (v : Vv) (c uk um : Int) (ug : Nat) (ux : ByteArray) (ur : Int) (HK : ∀ w, Calls Try.prog 10 #[vv v] w fun e w' => e = .returned (va c ⟨uk, um, ug, ux, ur⟩) ∧ Kq w w') (hc : c = 0) (hk : (uk == v.k) = false) (w : World) : Calls Try.prog 40 #[vv v] w fun e w' => e = .returned (.bool false) ∧ Kq w w' := by
  obtain ⟨k, m, g, x, r⟩ := v
  unfold vv at *
  unfold va at *
  dsimp only at *
  subst hc
  have hst : ∀ (a : Addr) (n : Nat) (m : Mode) (w : World), (store a (.float .f64 n) m).run Try.prog w = stored Try.prog w a (.float .f64 n) m := fun a n m w => run_store _ _ _ _ _ rfl
  go_enter Try.func40, Try.ntmps40
  go_wp2_with fail
  refine (HK _).mono ?_
  rintro e w1 ⟨rfl, g1⟩
  have G1 : Hid (Kq w w1) := Kq.trans (.of_grown (by go_grown)) g1
  have V1 := Vc.kq (Vc.new w k m g x r 26) g1
  have q0 := (V1.kq (kq_alloc _ #[.int .i64 0, .int .i64 uk, .int .i64 um, .float .f64 ug, .string ux, .int .i64 ur] 28)).c0
  dsimp only at q0
  have G2 : Hid (Kq w (w1.alloc (.cells #[.int .i64 0, .int .i64 uk, .int .i64 um, .float .f64 ug, .string ux, .int .i64 ur] 28))) := Kq.trans G1 (kq_alloc _ _ _)
  clear g1 V1 G1
  go_wp2_with fail
  go_ret
  exact ⟨by first | rfl | simp [*], G2⟩
theorem sp_kok (v : Vv) (hx : (v.x.size : Int) ≤ 1048576) (hg : v.g < 18446744073709551616) (w : World) : Calls Try.prog 40 #[vv v] w fun e w' => e = .returned (.bool (dc (kok v))) ∧ Kq w w' := by
  obtain ⟨c, ⟨uk, um, ug, ux, ur⟩, hy⟩ := ky_ex v
  have e := hy.kok
  dsimp only at e
  have HK := fun w => sp_key hy hx hg w
  by_cases hc : c = 0
  · by_cases hk : uk = v.k
    · rw [dc_t (e.2 ⟨hc, hk⟩)]
      exact sp_kok_t v c uk um ug ux ur HK hc (by simpa using hk) w
    · rw [dc_f (fun h => hk (e.1 h).2)]
      exact sp_kok_f v c uk um ug ux ur HK hc (by simpa using hk) w
  · rw [dc_f (fun h => hc (e.1 h).1)]
    exact sp_kok_c v c uk um ug ux ur HK (by simpa using hc) w
/-- the Turn ahead of pair i -/
def lst (F : Nat → Pv) : Nat → Int
  | 0 => 0
  | i + 1 => (F i).t
/-- pair i may stand behind those ahead of it -/
def pok (F : Nat → Pv) (T : Int) (i : Nat) : Prop := kok (F i).a ∧ vok (F i).b ∧ ¬ (F i).b.k = 0 ∧ lst F i < (F i).t ∧ (F i).t ≤ T ∧ ∀ j, j < i → ¬ mk (F j).a = mk (F i).a
/-- a table is valid -/
def tok (n : Nat) (F : Nat → Pv) (T : Int) : Prop := n ≤ 500 ∧ 0 ≤ T ∧ T ≤ 1000000000000 ∧ ∀ i, i < n → pok F T i
/-- the numbers of a table are such as the words of a machine hold -/
structure Tb (n : Nat) (F : Nat → Pv) : Prop where
  len : n ≤ 1048576
  a : ∀ i, i < n → Vb (F i).a
  b : ∀ i, i < n → Vb (F i).b
  xa : ∀ i, i < n → ((F i).a.x.size : Int) ≤ 1048576
  xb : ∀ i, i < n → ((F i).b.x.size : Int) ≤ 1048576
  t : ∀ i, i < n → -9223372036854775808 ≤ (F i).t ∧ (F i).t ≤ 9223372036854775807
end Go.Proofs.Ytfpidccjcemcjaa
