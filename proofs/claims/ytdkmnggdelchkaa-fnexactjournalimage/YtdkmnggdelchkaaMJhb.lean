import Derived.Test.YtdkmnggdelchkaaMJha
namespace Go.Proofs.Ytdkmnggdelchkaa.Fo
open Go.ChangeShapes Go.WideShapes Go.ChangeAt Go.RowKit
set_option linter.unusedVariables false
set_option maxRecDepth 100000
set_option maxHeartbeats 8000000 in
theorem mark_jour {J : Jd} {p1 p2 : Option Addr} {c1 c2 L H g b : Nat} (w : World) (h : Jo J L H w (.slice p1 J.n c1) (.slice p2 J.m c2) g b) (hH : H ≤ w.heap.size) (hb : Jb J) :
    Calls Try.prog 11 #[.agg #[.slice p1 J.n c1, .int .i64 J.p, .int .i64 J.q, .slice p2 J.m c2], .int .i64 1] w fun e w' => e = .returned (.int .i64 (1 + (J.n : Int) + 4 * (J.m : Int))) ∧ Kq (fun q => L ≤ q ∧ q < H) w w' ∧ OwnR w' (.slice p1 J.n c1) g J.n (fun i => .string (mtx (1 + i))) ∧ Js.MdV w' (.slice p2 J.m c2) b J.m (1 + (J.n : Int)) := by
  obtain ⟨w1, hw1⟩ : ∃ w1, w1 = w.alloc (.cells #[.slice p1 J.n c1, .int .i64 J.p, .int .i64 J.q, .slice p2 J.m c2] 31) := ⟨_, rfl⟩
  have k1 : Kb 0 w w1 := by rw [hw1]; exact kb_alloc _ _ _
  have q1 : Kq (fun q => L ≤ q ∧ q < H) w w1 := by rw [hw1]; exact Kq.of_below ((Below.refl _ w).alloc (Nat.le_refl _) _) (Nat.le_refl _)
  have b1 : w1.heap[w.heap.size]? = some (.cells #[.slice p1 J.n c1, .int .i64 J.p, .int .i64 J.q, .slice p2 J.m c2] 31 (0, 0)) := by rw [hw1]; exact alloc_new _ _ _
  have h1 : Jo J L H w1 (.slice p1 J.n c1) (.slice p2 J.m c2) g b := h.block (fun q _ hq => k1.block q (Nat.zero_le _) (by omega))
  have c0 : w1.cell? ⟨w.heap.size, 0, none⟩ = some (.slice p1 J.n c1) := cell_of b1 rfl
  have HM := mark_strs w1 1 h1.l (by have := hb.1; omega) (by omega) (by omega)
  have HT : Hid (∀ W, Kq (fun j => 0 < J.n ∧ j = g) w1 W → OwnR W (.slice p1 J.n c1) g J.n (fun i => .string (mtx (1 + i))) → W.cell? ⟨w.heap.size, 3, none⟩ = some (.slice p2 J.m c2) ∧ Calls Try.prog 33 #[.slice p2 J.m c2, .int .i64 (1 + (J.n : Int))] W fun e w' => e = .returned (.int .i64 (1 + (J.n : Int) + 4 * (J.m : Int))) ∧ Kq (fun q => L ≤ q ∧ q < H) w w' ∧ OwnR w' (.slice p1 J.n c1) g J.n (fun i => .string (mtx (1 + i))) ∧ Js.MdV w' (.slice p2 J.m c2) b J.m (1 + (J.n : Int))) := (fun W k ho => by
    have hg := h.hg
    have hbb := h.hb
    have hne := h.ne
    have hn1 := hb.1
    have z1 : w1.heap.size = w.heap.size + 1 := by rw [hw1]; simp
    have bW : W.heap[w.heap.size]? = _ := (k.block w.heap.size (by omega) (fun e => by omega)).trans b1
    refine ⟨cell_of bW rfl, ?_⟩
    have hs : Js.OwV W (.slice p2 J.m c2) b J.m := h1.s.block (fun _ => k.block b (by omega) (fun e => hne e.2.symm))
    refine (Js.mark_sts W (1 + (J.n : Int)) hs hb.2.1 (by omega) (by omega)).mono ?_
    rintro e w' ⟨he, kq, hm⟩
    refine ⟨he, (q1.trans (k.mono (fun q e => by rw [e.2]; exact hg))).trans (kq.mono (fun q e => by rw [e.2]; exact hbb)), ho.block (fun _ => kq.block g (by have := k.size; omega) (fun e => hne e.2)), hm⟩ : ∀ W, _)
  have HW : Hid (w1 = w.alloc (.cells #[.slice p1 J.n c1, .int .i64 J.p, .int .i64 J.q, .slice p2 J.m c2] 31)) := hw1
  rw [show ((1 : Nat) : Int) = 1 from rfl] at HM
  clear h hH hb hw1 k1 q1 b1 h1
  obtain ⟨n, S, p, q, m, T⟩ := J
  dsimp only at *
  go_enter Try.func11, Try.ntmps11
  go_upto_region 1 with fail
  rw [← (show w1 = _ from HW)]
  clear HW
  go_wp2_with fail
  refine HM.mono ?_
  rintro e w2 ⟨rfl, k2, o2⟩
  obtain ⟨c3, HS⟩ := (show ∀ W, _ from HT) w2 k2 o2
  clear HM HT c0 k2 o2
  go_wp2_with fail
  refine HS.mono ?_
  rintro e w3 ⟨rfl, HF⟩
  replace HF : Hid (_ ∧ _ ∧ _) := HF
  clear HS c3
  go_wp2_with fail
  go_ret
  exact ⟨rfl, HF⟩
end Go.Proofs.Ytdkmnggdelchkaa.Fo
