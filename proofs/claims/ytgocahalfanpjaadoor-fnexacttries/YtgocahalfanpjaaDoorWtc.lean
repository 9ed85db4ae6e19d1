import Derived.Test.YtgocahalfanpjaaDoorWtb
import Derived.Test.YtgocahalfanpjaaDoorCno
namespace Go.Proofs.YtgocahalfanpjaaDoor.Fo
open Go.ChangeShapes Go.WideShapes Go.ChangeAt Go.RowKit Go.Shelf
set_option linter.unusedVariables false
set_option maxRecDepth 100000

theorem blk_kb {w W : World} {B : Nat} {o : Obj} (h : w.heap[B]? = some o) (k : Kb 0 w W) : W.heap[B]? = some o := (k.block B (Nat.zero_le _) (Array.getElem?_eq_some_iff.1 h).1).trans h
theorem own_pos {W : World} {B t n : Nat} {v : Value} {xs : List Value} (h : W.ownsRow B t 1 v n xs) (hn : 0 < n) : ∃ g c, v = .slice (some ⟨g, 0, none⟩) n c ∧ n ≤ c := by
  rcases h.2 with ⟨_, q⟩ | ⟨g, cap, cur, e, _, _, q, _⟩
  · omega
  · exact ⟨g, cap, e, q⟩
theorem sl_last {g n cap : Nat} (h0 : ¬ cap = 0) (h1 : n ≤ cap) (W : World) : (Instr.sliceAt 27 (.slice (some ⟨g, 0, none⟩) (n + 1) cap) none (some (.int .i64 (n : Int))) none).run Tryd.prog W = .ok (.slice (some ⟨g, 0, none⟩) n cap) W := by
  have hT : Tryd.prog.underlying 27 = some (.slice (Tryd.prog.elem 27)) := by kernel_rfl
  have hs : (sizeOf (Tryd.prog.elem 27)).run Tryd.prog W = Result.ok 1 W := by kernel_rfl
  rw [run_sliceAt_slice _ _ _ _ _ _ hT, run_slice_h _ _ _ _ _ hT _ _ (by omega) (by omega), hs]
  simp [Result.andThen, sliced, h0, Addr.add]
set_option maxHeartbeats 16000000 in
theorem sp_within (f l : List UInt8) (w : World) : Calls Tryd.prog 5 #[.string (bt f), .string (bt l)] w fun e w' => e = .returned (clV (wth f l)) ∧ Kb 0 w w' := by
  obtain ⟨w1, hw1⟩ : ∃ w1, w1 = w.alloc (.cells #[.int .i64 0, .string ⟨#[]⟩] 23) := ⟨_, rfl⟩
  obtain ⟨b1, z1, k1⟩ := one_box w _ _ w1 hw1
  have HC := sp_clean f w1
  have H1 : Hid (w1.heap[w.heap.size]? = some (.cells #[.int .i64 0, .string ⟨#[]⟩] 23 (0, 0)) ∧ w1.heap.size = w.heap.size + 1 ∧ Kb 0 w w1) := (⟨b1, z1, k1⟩ : _ ∧ _)
  have HW : Hid (w1 = w.alloc (.cells #[.int .i64 0, .string ⟨#[]⟩] 23)) := hw1
  obtain ⟨C, hC⟩ : ∃ C, C = cln [] f := ⟨_, rfl⟩
  obtain ⟨V, hV⟩ : ∃ V, V = wth f l := ⟨_, rfl⟩
  rw [← hV]
  have HWT : Hid (V = if C.1 = 0 then cln (frow C.2) l else (4, [])) := (by rw [hV, hC]; rfl : V = _)
  have HCE : Hid (C = cln [] f) := hC
  rw [← hC] at HC
  clear b1 z1 k1 hw1 hC hV
  go_enter Tryd.func5, Tryd.ntmps5
  go_upto_region 1 with fail
  rw [← (show w1 = _ from HW)]
  clear HW
  go_wp2_with fail
  refine HC.mono ?_
  rintro e x ⟨rfl, kx⟩
  clear HC
  obtain ⟨c, m⟩ := C
  unfold clV
  dsimp only
  obtain ⟨x1, hx1⟩ : ∃ x1, x1 = x.alloc (.cells #[.int .i64 c, .string (bt m)] 23) := ⟨_, rfl⟩
  obtain ⟨bx, zx, kx1⟩ := one_box x _ _ x1 hx1
  obtain ⟨U, hU⟩ : ∃ U, U = x.heap.size := ⟨_, rfl⟩
  rw [← hU] at bx
  obtain ⟨b1, z1, k1⟩ := (show w1.heap[w.heap.size]? = some (.cells #[.int .i64 0, .string ⟨#[]⟩] 23 (0, 0)) ∧ w1.heap.size = w.heap.size + 1 ∧ Kb 0 w w1 from H1)
  have kw : Kb 0 w1 x1 := kx.trans kx1
  have c0 : x1.cell? ⟨U, 0, none⟩ = some (.int .i64 c) := cell_of bx rfl
  have c1 : x1.cell? ⟨U, 1, none⟩ = some (.string (bt m)) := cell_of bx rfl
  have HX : Hid (x1 = x.alloc (.cells #[.int .i64 c, .string (bt m)] 23) ∧ U = x.heap.size) := (⟨hx1, hU⟩ : _ ∧ _)
  by_cases h0 : c = 0
  case neg =>
    have hv : V = (4, []) := (show V = _ from HWT).trans (if_neg h0)
    clear HWT
    subst hv
    have hne : (c != 0) = true := by simpa using h0
    have bW := blk_kb b1 kw
    have r0 : x1.cell? ⟨w.heap.size, 0, none⟩ = some (.int .i64 0) := cell_of bW rfl
    have r1 : x1.cell? ⟨w.heap.size, 1, none⟩ = some (.string ⟨#[]⟩) := cell_of bW rfl
    have fz : ∀ j, x1.frozen? ⟨w.heap.size, j, none⟩ = false := fun j => frozen_of bW
    have HF : Hid (Kb 0 w ((x1.setCell ⟨w.heap.size, 0, none⟩ (.int .i64 4)).setCell ⟨w.heap.size, 1, none⟩ (.string ⟨#[]⟩))) := kb_set (kb_set (k1.trans kw) ⟨w.heap.size, 0, none⟩ (Nat.le_refl _) _) ⟨w.heap.size, 1, none⟩ (Nat.le_refl _) _
    obtain ⟨WF, hWF⟩ : ∃ WF, WF = (x1.setCell ⟨w.heap.size, 0, none⟩ (.int .i64 4)).setCell ⟨w.heap.size, 1, none⟩ (.string ⟨#[]⟩) := ⟨_, rfl⟩
    have bF : WF.heap[w.heap.size]? = some (.cells #[.int .i64 4, .string ⟨#[]⟩] 23 (0, 0)) := by rw [hWF]; exact two_set _ _ bW
    have e0 : WF.cell? ⟨w.heap.size, 0, none⟩ = some (.int .i64 4) := cell_of bF rfl
    have e1 : WF.cell? ⟨w.heap.size, 1, none⟩ = some (.string ⟨#[]⟩) := cell_of bF rfl
    rw [← hWF] at HF
    have HWF : Hid (WF = _) := hWF
    clear h0 HCE b1 z1 k1 kw bx zx kx1 kx hx1 hU bW bF hWF H1
    go_upto_region 2 with fail
    rw [← (show _ ∧ _ from HX).1, ← (show _ ∧ _ from HX).2]
    clear HX
    go_wp2_with fail
    rw [← (show WF = _ from HWF)]
    clear HWF
    refine bodyPost_ret (by simp [results, Tryd.results5, go_sem, e0, e1]; rfl) rfl ?_
    exact ⟨rfl, HF⟩
  subst h0
  have HV : Hid (V = cln (frow m) l) := (show V = _ from HWT).trans (if_pos rfl)
  obtain ⟨f1, f2, f3, f4, f5⟩ := frow_ok (show (0, m) = cln [] f from HCE).symm
  have HB : Hid (x1.heap[w.heap.size]? = some (.cells #[.int .i64 0, .string ⟨#[]⟩] 23 (0, 0)) ∧ Kb 0 w x1 ∧ w.heap.size < x1.heap.size) := (⟨blk_kb b1 kw, k1.trans kw, by have := kw.size; omega⟩ : _ ∧ _)
  have HP : Calls Tryd.prog 16 #[.string (bt m)] x1 fun e w' => ∃ g n c, e = .returned (.slice (some ⟨g, 0, none⟩) (n + 1) c) ∧ n + 1 = (spB m).length ∧ n + 1 ≤ c ∧ w'.ownsRow x1.heap.size 9 1 (.slice (some ⟨g, 0, none⟩) (spB m).length c) (spB m).length (stv (spB m)) ∧ Kb 0 x1 w' := (sp_parts f5 x1).mono (fun e w' ⟨v, h1, h2, h3⟩ => by
    obtain ⟨g, c, e1, e2⟩ := own_pos h2 (List.length_pos_iff.2 (spB_ne m))
    have hp : 0 < (spB m).length := List.length_pos_iff.2 (spB_ne m)
    exact ⟨g, (spB m).length - 1, c, by rw [h1, e1, Nat.sub_add_cancel hp], Nat.sub_add_cancel hp, by omega, by rw [e1] at h2; exact h2, h3⟩)
  have HFR : Hid ((frow m).length ≤ 60 ∧ (∀ p ∈ frow m, p.length ≤ 60) ∧ (∀ p ∈ frow m, p ≠ []) ∧ (spB m).length = (frow m).length + 1) := (⟨f1, f2, f3, f4⟩ : _ ∧ _)
  have HMM : Hid (frow m = (spB m).dropLast) := (rfl : frow m = _)
  clear HWT HCE b1 z1 k1 kw bx zx kx1 kx hx1 hU H1 f1 f2 f3 f4 f5
  go_upto_region 2 with fail
  rw [← (show _ ∧ _ from HX).1, ← (show _ ∧ _ from HX).2]
  clear HX
  go_wp2_with fail
  refine HP.mono ?_
  rintro e y ⟨g, n, cap, rfl, hn, hcap, ho, ky⟩
  clear HP c0 c1
  obtain ⟨f1, f2, f3, f4⟩ := (show _ ∧ _ ∧ _ ∧ _ from HFR)
  have hd := own_drop hn.symm ho
  rw [← (show frow m = _ from HMM)] at hd
  have hnl : n = (frow m).length := by omega
  rw [hnl] at hd
  have hwy : w.heap.size + 1 ≤ y.heap.size := by have := (show _ ∧ _ ∧ w.heap.size < x1.heap.size from HB).2.2; have := ky.size; omega
  have HK := (sp_named (l := l) f1 f2 f3 y (rowt_own hd)).mono (fun e w' h => (⟨h.1, KB.of h.2 hwy⟩ : _ ∧ KB (w.heap.size + 1) y w'))
  obtain ⟨bW, kW, hW⟩ := (show _ ∧ _ ∧ _ from HB)
  rw [← hnl, ← (show V = _ from HV)] at HK
  have HB2 : Hid (y.heap[w.heap.size]? = some (.cells #[.int .i64 0, .string ⟨#[]⟩] 23 (0, 0)) ∧ Kb 0 w y) := (⟨blk_kb bW ky, kW.trans ky⟩ : _ ∧ _)
  have hcI : ((n : Int) + 1) ≤ (cap : Int) := by omega
  have hc0 : ¬ cap = 0 := by omega
  have hnI : (n : Int) ≤ 60 := by omega
  clear f1 f2 f3 f4 hd hnl bW kW hW hn ho ky HB HFR HMM hcap HV hwy
  obtain ⟨hsl, -⟩ : (∀ W, (Instr.sliceAt 27 (.slice (some ⟨g, 0, none⟩) (n + 1) cap) none (some (.int .i64 (n : Int))) none).run Tryd.prog W = .ok (.slice (some ⟨g, 0, none⟩) n cap) W) ∧ True := ⟨fun W => sl_last hc0 (by omega) W, trivial⟩
  go_wp2_with fail
  refine HK.mono ?_
  rintro e z ⟨rfl, kz⟩
  clear HK hsl
  obtain ⟨bY, kY⟩ := (show y.heap[w.heap.size]? = some (.cells #[.int .i64 0, .string ⟨#[]⟩] 23 (0, 0)) ∧ Kb 0 w y from HB2)
  obtain ⟨c, m⟩ := V
  unfold clV
  dsimp only
  have bW := (kz.block w.heap.size (by omega)).trans bY
  have kYz : Kb 0 w z := ⟨kz.os.trans kY.os, kz.output.trans kY.output, Nat.le_trans kY.size kz.size, fun i _ hi => (kz.block i (by omega)).trans (kY.block i (Nat.zero_le _) hi)⟩
  have r0 : z.cell? ⟨w.heap.size, 0, none⟩ = some (.int .i64 0) := cell_of bW rfl
  have r1 : z.cell? ⟨w.heap.size, 1, none⟩ = some (.string ⟨#[]⟩) := cell_of bW rfl
  have fz : ∀ j, z.frozen? ⟨w.heap.size, j, none⟩ = false := fun j => frozen_of bW
  have HF : Hid (Kb 0 w ((z.setCell ⟨w.heap.size, 0, none⟩ (.int .i64 c)).setCell ⟨w.heap.size, 1, none⟩ (.string (bt m)))) := kb_set (kb_set kYz ⟨w.heap.size, 0, none⟩ (Nat.le_refl _) _) ⟨w.heap.size, 1, none⟩ (Nat.le_refl _) _
  obtain ⟨WF, hWF⟩ : ∃ WF, WF = (z.setCell ⟨w.heap.size, 0, none⟩ (.int .i64 c)).setCell ⟨w.heap.size, 1, none⟩ (.string (bt m)) := ⟨_, rfl⟩
  have bF : WF.heap[w.heap.size]? = some (.cells #[.int .i64 c, .string (bt m)] 23 (0, 0)) := by rw [hWF]; exact two_set _ _ bW
  have e0 : WF.cell? ⟨w.heap.size, 0, none⟩ = some (.int .i64 c) := cell_of bF rfl
  have e1 : WF.cell? ⟨w.heap.size, 1, none⟩ = some (.string (bt m)) := cell_of bF rfl
  rw [← hWF] at HF
  have HWF : Hid (WF = _) := hWF
  clear HB2 bY kY kz kYz bW hWF bF
  go_wp2_with fail
  rw [← (show WF = _ from HWF)]
  clear HWF
  refine bodyPost_ret (by simp [results, Tryd.results5, go_sem, e0, e1]; rfl) rfl ?_
  exact ⟨rfl, HF⟩
end Go.Proofs.YtgocahalfanpjaaDoor.Fo
