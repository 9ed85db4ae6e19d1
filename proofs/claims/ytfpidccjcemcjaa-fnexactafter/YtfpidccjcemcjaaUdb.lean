import Derived.Test.YtfpidccjcemcjaaUda
import Derived.Test.YtfpidccjcemcjaaReg
namespace Go.Proofs.Ytfpidccjcemcjaa
open Go.ChangeShapes Go.WideShapes Go.ChangeAt Go.RowKit
set_option linter.unusedVariables false
set_option maxRecDepth 100000
theorem bits_ext (x : Nat) (w : World) : (callFunc 85 #[.float .f64 x]).run Try.prog w = .ok (.value (.int .u64 x)) w := by
  rw [run_callFunc_extern (e := Extern.MathFloatBits.float64bits) Try.func85 (by kernel_rfl) (by kernel_rfl) (by kernel_rfl) (by kernel_rfl)]
  rfl
theorem im_bits (x : Nat) (hn : FloatKind.f64.format.order x x = some .eq) (w : World) :
    Calls Try.prog 81 #[.float .f64 x] w fun e w' => e = .returned (.int .i64 (wrap64 x)) ∧ w' = w := by
  have hb := bits_ext x
  have hN := fun w => im_nan_f x hn w
  go_enter Try.func81, Try.ntmps81
  go_wp2_with (go_at_call 76; refine (hN _).mono ?_; rintro e w' ⟨rfl, rfl⟩)
  go_ret
  exact ⟨rfl, rfl⟩
set_option maxHeartbeats 4000000 in
theorem im_mark (v : Vv) (h : kok v) (w : World) : Calls Try.prog 71 #[vv v] w fun e w' => e = .returned (mkw v) ∧ Kq w w' := by
  by_cases h3 : v.k = 3
  · have e : (mk v).n = wrap64 (v.g : Int) := by unfold mk; dsimp only; rw [if_pos h3]
    have HB := fun w => im_bits v.g (h.2.2 h3).1 w
    unfold mkw
    rw [e]
    clear e h
    obtain ⟨k, m, g, x, r⟩ := v
    unfold vv
    dsimp only at h3 HB ⊢
    subst h3
    have hst : ∀ (a : Addr) (n : Nat) (m : Mode) (w : World), (store a (.float .f64 n) m).run Try.prog w = stored Try.prog w a (.float .f64 n) m := fun a n m w => run_store _ _ _ _ _ rfl
    go_enter Try.func71, Try.ntmps71
    go_wp2_with (go_at_call 81; refine (HB _).mono ?_; rintro e w' ⟨rfl, rfl⟩)
    refine bodyPost_ret (by simp [results, Try.results71, go_sem]; rfl) rfl ?_
    exact ⟨rfl, .of_grown (by go_grown)⟩
  · have e : (mk v).n = v.m := by unfold mk; dsimp only; rw [if_neg h3]
    unfold mkw
    rw [e]
    clear e h
    obtain ⟨k, m, g, x, r⟩ := v
    unfold vv
    dsimp only at h3 ⊢
    have hst : ∀ (a : Addr) (n : Nat) (m : Mode) (w : World), (store a (.float .f64 n) m).run Try.prog w = stored Try.prog w a (.float .f64 n) m := fun a n m w => run_store _ _ _ _ _ rfl
    go_enter Try.func71, Try.ntmps71
    go_wp2_with fail
    refine bodyPost_ret (by simp [results, Try.results71, go_sem]; rfl) rfl ?_
    exact ⟨rfl, .of_grown (by go_grown)⟩
set_option maxHeartbeats 8000000 in
theorem im_has (v : Vv) (h : kok v) {B M : Nat} {L : List (Vv × Int)} (w : World) (hB : w.cell? ⟨B, 2, none⟩ = some (.map (some M))) (hM : Mp w M L) : Calls Try.prog 74 #[.pointer (some ⟨B, 0, none⟩), vv v] w fun e w' => e = .returned (.bool (look v L).isSome) ∧ Kq w w' := by
  have HK := fun w => im_mark v h w
  obtain ⟨mw, hmw⟩ : ∃ mw, mw = mkw v := ⟨_, rfl⟩
  rw [← hmw] at HK
  have HL : ∀ W, Mp W M L → (Instr.lookup 72 (.map (some M)) mw true).run Try.prog W = .ok (lkv (look v L)) W := fun W hW => by rw [hmw]; exact run_lookMk hW v
  clear h hmw
  obtain ⟨t, ok, hlk, hok⟩ : ∃ (t : Int) (ok : Bool), lkv (look v L) = .tuple #[.int .i64 t, .bool ok] ∧ ok = (look v L).isSome := by
    cases look v L with
    | none => exact ⟨0, false, rfl, rfl⟩
    | some t => exact ⟨t, true, rfl, rfl⟩
  rw [hlk] at HL
  rw [← hok]
  clear hlk hok
  obtain ⟨k, m, g, x, r⟩ := v
  unfold vv at HK ⊢
  dsimp only at HK ⊢
  obtain ⟨w1, hw1⟩ : ∃ w1, w1 = w.alloc (.cells #[.int .i64 k, .int .i64 m, .float .f64 g, .string x, .int .i64 r] 26) := ⟨_, rfl⟩
  have k1 : Kq w w1 := by rw [hw1]; exact kq_alloc _ _ _
  have S1 : w1.cell? ⟨B, 2, none⟩ = some (.map (some M)) ∧ Mp w1 M L ∧ Vc w1 w.heap.size ⟨k, m, g, x, r⟩ := ⟨k1.cell hB, hM.kq k1, by rw [hw1]; exact Vc.new _ _ _ _ _ _ _⟩
  have HS : Hid (∀ W, Kq w1 W → W.cell? ⟨B, 2, none⟩ = some (.map (some M)) ∧ Mp W M L ∧ Vc W w.heap.size ⟨k, m, g, x, r⟩) := (fun W q => ⟨q.cell S1.1, S1.2.1.kq q, S1.2.2.kq q⟩ : ∀ W, Kq w1 W → _)
  have HK1 : Hid (Kq w w1) := k1
  clear hB hM S1 k1
  have hst : ∀ (a : Addr) (n : Nat) (m : Mode) (w : World), (store a (.float .f64 n) m).run Try.prog w = stored Try.prog w a (.float .f64 n) m := fun a n m w => run_store _ _ _ _ _ rfl
  go_enter Try.func74, Try.ntmps74
  go_wp2_with fail
  rw [← hw1]
  clear hw1
  refine AnyL.region (S := fun W : World => W.cell? ⟨B, 2, none⟩ = some (.map (some M)) ∧ Mp W M L ∧ Vc W w.heap.size ⟨k, m, g, x, r⟩) (z := 99) (by kernel_rfl) ?_
  have hS0 := (show ∀ W, Kq w1 W → W.cell? ⟨B, 2, none⟩ = some (.map (some M)) ∧ Mp W M L ∧ Vc W w.heap.size ⟨k, m, g, x, r⟩ from HS) w1.drew (Kq.drew (Kq.refl _))
  refine AnyL.takeAt 0 (.pointer (some ⟨B, 0, none⟩)) rfl (by kernel_rfl) (by kernel_rfl) (by kernel_rfl) (by kernel_rfl) (fun _ _ _ h => h) rfl hS0 (by intro W hW; obtain ⟨q0, q1, ⟨q2, q3, q4, q5, q6⟩⟩ := hW; go_simp) ?_
  try simp only [Act.put, List.setIfInBounds_toArray, List.set_cons_zero, List.set_cons_succ]
  refine AnyL.takeAt 1 (.pointer (some ⟨B, 0, none⟩)) rfl (by kernel_rfl) (by kernel_rfl) (by kernel_rfl) (by kernel_rfl) (fun _ _ _ h => h) rfl hS0 (by intro W hW; obtain ⟨q0, q1, ⟨q2, q3, q4, q5, q6⟩⟩ := hW; go_simp) ?_
  try simp only [Act.put, List.setIfInBounds_toArray, List.set_cons_zero, List.set_cons_succ]
  refine AnyL.takeAt 2 (.pointer (some ⟨B, 2, none⟩)) rfl (by kernel_rfl) (by kernel_rfl) (by kernel_rfl) (by kernel_rfl) (fun _ _ _ h => h) rfl hS0 (by intro W hW; obtain ⟨q0, q1, ⟨q2, q3, q4, q5, q6⟩⟩ := hW; go_simp) ?_
  try simp only [Act.put, List.setIfInBounds_toArray, List.set_cons_zero, List.set_cons_succ]
  refine AnyL.takeAt 3 (.map (some M)) rfl (by kernel_rfl) (by kernel_rfl) (by kernel_rfl) (by kernel_rfl) (fun _ _ _ h => h) rfl hS0 (by intro W hW; obtain ⟨q0, q1, ⟨q2, q3, q4, q5, q6⟩⟩ := hW; go_simp) ?_
  try simp only [Act.put, List.setIfInBounds_toArray, List.set_cons_zero, List.set_cons_succ]
  refine AnyL.takeAt 4 (.agg #[.int .i64 k, .int .i64 m, .float .f64 g, .string x, .int .i64 r]) rfl (by kernel_rfl) (by kernel_rfl) (by kernel_rfl) (by kernel_rfl) (fun _ _ _ h => h) rfl hS0 (by intro W hW; obtain ⟨q0, q1, ⟨q2, q3, q4, q5, q6⟩⟩ := hW; go_simp) ?_
  try simp only [Act.put, List.setIfInBounds_toArray, List.set_cons_zero, List.set_cons_succ]
  refine AnyL.oneAt 5 rfl (by kernel_rfl) rfl ?_
  intro K hK
  go_simp
  refine (HK _).mono ?_
  rintro e w2 ⟨rfl, g2⟩
  have K2 : Hid (Kq w1 w2) := Kq.trans (Kq.drew (Kq.refl _)) g2
  have hS2 := (show ∀ W, Kq w1 W → W.cell? ⟨B, 2, none⟩ = some (.map (some M)) ∧ Mp W M L ∧ Vc W w.heap.size ⟨k, m, g, x, r⟩ from HS) w2 K2
  clear g2
  refine hK.out _ _ (fun _ => hS2) ?_
  clear hK K
  try simp only [Act.put, List.setIfInBounds_toArray, List.set_cons_zero, List.set_cons_succ]
  refine AnyL.takeAt 6 (.tuple #[.int .i64 t, .bool ok]) rfl (by kernel_rfl) (by kernel_rfl) (by kernel_rfl) (by kernel_rfl) (fun _ _ _ h => h) rfl hS2 (by intro W hW; have hl := HL W hW.2.1; go_simp) ?_
  try simp only [Act.put, List.setIfInBounds_toArray, List.set_cons_zero, List.set_cons_succ]
  refine AnyL.takeAt 7 (.tuple #[.int .i64 t, .bool ok]) rfl (by kernel_rfl) (by kernel_rfl) (by kernel_rfl) (by kernel_rfl) (fun _ _ _ h => h) rfl hS2 (by intro W hW; go_simp) ?_
  try simp only [Act.put, List.setIfInBounds_toArray, List.set_cons_zero, List.set_cons_succ]
  refine AnyL.takeAt 8 (.int .i64 t) rfl (by kernel_rfl) (by kernel_rfl) (by kernel_rfl) (by kernel_rfl) (fun _ _ _ h => h) rfl hS2 (by intro W hW; go_simp) ?_
  try simp only [Act.put, List.setIfInBounds_toArray, List.set_cons_zero, List.set_cons_succ]
  refine AnyL.takeAt 9 (.bool ok) rfl (by kernel_rfl) (by kernel_rfl) (by kernel_rfl) (by kernel_rfl) (fun _ _ _ h => h) rfl hS2 (by intro W hW; go_simp) ?_
  try simp only [Act.put, List.setIfInBounds_toArray, List.set_cons_zero, List.set_cons_succ]
  refine AnyL.takeAt 10 (.int .i64 t) rfl (by kernel_rfl) (by kernel_rfl) (by kernel_rfl) (by kernel_rfl) (fun _ _ _ h => h) rfl hS2 (by intro W hW; go_simp) ?_
  try simp only [Act.put, List.setIfInBounds_toArray, List.set_cons_zero, List.set_cons_succ]
  refine AnyL.takeAt 11 (.bool ok) rfl (by kernel_rfl) (by kernel_rfl) (by kernel_rfl) (by kernel_rfl) (fun _ _ _ h => h) rfl hS2 (by intro W hW; go_simp) ?_
  try simp only [Act.put, List.setIfInBounds_toArray, List.set_cons_zero, List.set_cons_succ]
  refine AnyL.done (by kernel_rfl) ?_
  have KE : Hid (Kq w w2) := Kq.trans HK1 K2
  clear hS0 hS2 HS HL HK K2 HK1
  go_wp2_with fail
  go_ret
  exact ⟨rfl, KE⟩
end Go.Proofs.Ytfpidccjcemcjaa
