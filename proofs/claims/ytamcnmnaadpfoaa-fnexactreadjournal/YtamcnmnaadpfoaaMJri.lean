import Derived.Deep.QuietTactic
import Derived.BigQuiet
import Derived.Deep.CutBlock
import Derived.Deep.CutRange
import Derived.Test.YtamcnmnaadpfoaaMJrg
import Derived.Test.YtamcnmnaadpfoaaMUbb
namespace Go.Proofs.Ytamcnmnaadpfoaa.Fo
open Go.ChangeShapes Go.WideShapes Go.ChangeAt Go.RowKit
set_option linter.unusedVariables false
set_option maxRecDepth 100000
def Sml (z : Gv) : Prop := z.k = 1 ∧ -1 ≤ z.m ∧ z.m ≤ 1000000
set_option maxHeartbeats 8000000 in
theorem sp_small (z : Gv) (w : World) : Calls Try.prog 17 #[.agg #[.int .i64 z.k, .int .i64 z.m, .string z.x, .int .i64 z.r]] w fun e w' => e = .returned (.tuple #[.int .i64 z.m, .bool (dc (Sml z))]) ∧ Kb 0 w w' := by
  obtain ⟨w1, hw1⟩ : ∃ w1, w1 = w.alloc (.cells #[.int .i64 z.k, .int .i64 z.m, .string z.x, .int .i64 z.r] 41) := ⟨_, rfl⟩
  have k1 : Kb 0 w w1 := by rw [hw1]; exact kb_alloc _ _ _
  have b1 : w1.heap[w.heap.size]? = some (.cells #[.int .i64 z.k, .int .i64 z.m, .string z.x, .int .i64 z.r] 41 (0, 0)) := by rw [hw1]; exact alloc_new _ _ _
  have c0 : w1.cell? ⟨w.heap.size, 0, none⟩ = some (.int .i64 z.k) := cell_of b1 rfl
  have c1 : w1.cell? ⟨w.heap.size, 1, none⟩ = some (.int .i64 z.m) := cell_of b1 rfl
  have HW : Hid (w1 = w.alloc (.cells #[.int .i64 z.k, .int .i64 z.m, .string z.x, .int .i64 z.r] 41)) := hw1
  have HD : ∀ n, Kb 0 w (w1.drewN n) := fun n => Kb.drewN k1 n
  clear hw1 k1 b1
  by_cases h1 : z.k = 1
  case neg =>
    rw [dc_f (fun h => h1 h.1)]
    have e1 : (z.k == 1) = false := by simp [h1]
    clear h1
    go_enter Try.func17, Try.ntmps17
    go_upto_region 1 with fail
    rw [← (show w1 = _ from HW)]
    clear HW
    go_quiet (fail)
    go_wp2_with fail
    refine bodyPost_ret (by simp [results, Try.results17, go_sem]; rfl) rfl ?_
    exact ⟨rfl, HD _⟩
  have e1 : (z.k == 1) = true := by simp [h1]
  by_cases h2 : -1 ≤ z.m
  case neg =>
    rw [dc_f (fun h => h2 h.2.1)]
    clear h1
    go_enter Try.func17, Try.ntmps17
    go_upto_region 1 with fail
    rw [← (show w1 = _ from HW)]
    clear HW
    go_quiet (fail)
    go_wp2_with fail
    refine bodyPost_ret (by simp [results, Try.results17, go_sem]; rfl) rfl ?_
    exact ⟨rfl, HD _⟩
  by_cases h3 : z.m ≤ 1000000
  case neg =>
    rw [dc_f (fun h => h3 h.2.2)]
    clear h1
    go_enter Try.func17, Try.ntmps17
    go_upto_region 1 with fail
    rw [← (show w1 = _ from HW)]
    clear HW
    go_quiet (fail)
    go_wp2_with fail
    refine bodyPost_ret (by simp [results, Try.results17, go_sem]; rfl) rfl ?_
    exact ⟨rfl, HD _⟩
  rw [dc_t ⟨h1, h2, h3⟩]
  clear h1
  go_enter Try.func17, Try.ntmps17
  go_upto_region 1 with fail
  rw [← (show w1 = _ from HW)]
  clear HW
  go_quiet (fail)
  go_wp2_with fail
  refine bodyPost_ret (by simp [results, Try.results17, go_sem]; rfl) rfl ?_
  exact ⟨rfl, HD _⟩
end Go.Proofs.Ytamcnmnaadpfoaa.Fo

namespace Go.Proofs.Ytamcnmnaadpfoaa.Fo
open Go.ChangeShapes Go.WideShapes Go.ChangeAt Go.RowKit
set_option linter.unusedVariables false
set_option maxRecDepth 100000

/-- the journal that the model takes out of a graph -/
def jmF (n : Nat) (F : Nat → Td) : Jd := ⟨(F 1).c, fun i => (zat F 1 i).x, (zat F 0 0).m, (zat F 0 1).m, n - 3, fun i => stF F (3 + i)⟩
theorem jm_F (a : Gv) (ys : List (Int × List Gv)) : jm (a, ys) = jmF ys.length (TF ys) := by
  unfold jm jmF
  have h1 : (vsG (a, ys) 1).length = (TF ys 1).c := rfl
  rw [h1, atv, atv]
  have h3 : (fun i => ((vsG (a, ys) 1).getD i z0v).x) = fun i => (zat (TF ys) 1 i).x := funext (fun i => by rw [atv]; rfl)
  have h4 : (fun i => stG (vsG (a, ys) (3 + i))) = fun i => stF (TF ys) (3 + i) := funext (fun i => stG_F a ys (3 + i))
  rw [h3, h4]
  rfl
/-- what the model asks, node by node -/
structure CmF (n : Nat) (F : Nat → Td) : Prop where
  n3 : 3 ≤ n
  c0 : (F 0).c = 4
  s0 : Sml (zat F 0 0)
  s1 : Sml (zat F 0 1)
  c4 : ∀ i, 3 ≤ i → i < n → (F i).c = 4
theorem cm_F {a : Gv} {ys : List (Int × List Gv)} (h : Cm (a, ys)) : CmF ys.length (TF ys) := by
  obtain ⟨h1, h2, h3, h4, h5⟩ := h
  rw [atv] at h3 h4
  exact ⟨h1, h2, h3, h4, h5⟩
theorem no_cm {M : List UInt8} {a : Gv} {ys : List (Int × List Gv)} (h : UnM M true (a, ys)) (hn : ¬ CmF ys.length (TF ys)) : RjA M false j0 := rm_no2 h (.inl (fun q => hn (cm_F q)))
def KrJ (M : List UInt8) (w : World) (K : Act → World → Prop) : Prop := ∀ a' w', bodyPost Try.prog Try.f5 (RjM M w) .ret a' w' → K a' w'
theorem thenJ {c : Code} {K : Act → World → Prop} {Q : Exit → Act → World → Prop} {a : Act} {W : World} (h : c.wp Try.prog (Exit.then K fun _ _ _ => False) a W) : c.wp Try.prog (Exit.then K Q) a W := Code.wp_mono (fun e a' w' h => by cases e <;> first | exact h | exact h.elim) h
theorem pck_len9 (n : Nat) (F : Nat → Td) (a : Gv) : (pck n F a).length ≤ 8192 := by
  unfold pck
  by_cases h : Gok n F a ∧ (pfl n F a).length ≤ 8192
  · rw [dc_t h, if_pos rfl]; exact h.2
  · rw [dc_f h]; simp
theorem jir_len (J : Jd) : (jir J).length ≤ 8192 := by
  unfold jir
  split
  · exact pck_len9 _ _ _
  · simp
theorem sl3 {ad : Addr} {N cn : Nat} (h3 : 3 ≤ N) (hc : N ≤ cn) : ∃ (pz : Option Addr) (cz : Nat), (∀ W, (Instr.sliceAt 42 (.slice (some ad) N cn) (some (.int .i64 3)) none none).run Try.prog W = .ok (.slice pz (N - 3) cz) W) ∧ N - 3 ≤ cz ∧ (3 < N → ∃ ae, pz = some ae ∧ ae = ad.add 6) := by
  refine ⟨if cn = 3 then some ad else some (ad.add 6), cn - 3, fun W => ?_, by omega, fun h => ⟨ad.add 6, by rw [if_neg (by omega)], rfl⟩⟩
  have hT : Try.prog.underlying 42 = some (.slice (Try.prog.elem 42)) := by kernel_rfl
  have hs : (sizeOf (Try.prog.elem 42)).run Try.prog W = Result.ok 2 W := by kernel_rfl
  rw [run_sliceAt_slice _ _ _ _ _ _ hT, run_slice_l _ _ _ _ _ hT _ _ (by omega) (by omega), hs]
  simp [Result.andThen, sliced]
end Go.Proofs.Ytamcnmnaadpfoaa.Fo
