import Derived.Test.YtaoagjajjeddcaaSle
namespace Go.Proofs.Ytaoagjajjeddcaa.Fo
open Go.ChangeShapes Go.WideShapes Go.ChangeAt Go.RowKit
set_option linter.unusedVariables false
set_option maxRecDepth 100000

set_option maxHeartbeats 16000000 in
theorem im_repeat0 {g : Nat} {s : ByteArray} (w : World) (hx : w.cell? ⟨g, 0, none⟩ = some (.string s)) :
    Calls Try.prog 37 #[.slice (some ⟨g, 0, none⟩) 1 1, .int .i64 0] w fun e w' => (∃ p c, e = .returned (.slice p 0 c)) ∧ Kb 0 w w' := by
  have HM : Calls Try.prog 39 #[.int .u64 1, .int .u64 0] w fun e w' => e = .returned (.tuple #[.int .u64 0, .int .u64 0]) ∧ w' = w := mul_1 (N := 0) (by omega) w
  have hmk := run_make (P := Try.prog) w 41 9 Try.t9 (.string ⟨#[]⟩) Try.underlying41 (by kernel_rfl) (by kernel_rfl) .i64 .i64 0 0 (by omega) (Int.le_refl _) (by decide) (by omega)
  obtain ⟨w1, hw1⟩ : ∃ w1, w1 = w.alloc (.cells (madeCells (.string ⟨#[]⟩ : Value).cells ((0 : Int).toNat * Try.t9.size)) 9) := ⟨_, rfl⟩
  rw [← hw1] at hmk
  have k1 : Kb 0 w w1 := by rw [hw1]; exact kb_alloc _ _ _
  have hcp : (Builtin.copy_ #[41, 41] 3 #[.slice (some ⟨w.heap.size, 0, none⟩) 0 0, .slice (some ⟨g, 0, none⟩) 1 1]).run Try.prog w1 = .ok (.int .i64 0) w1 := run_copy_none (P := Try.prog) w1 41 41 3 9 _ _ 0 0 1 1 Try.underlying41 infoS (by rfl)
  have HK1 : Hid (Kb 0 w w1) := k1
  clear hw1 k1 hx
  go_enter Try.func37, Try.ntmps37
  go_wp2_with fail
  refine HM.mono ?_
  rintro e wz ⟨rfl, hwz⟩
  rw [hwz]
  clear HM hwz wz
  go_wp2_with fail
  go_loopw [8] (fun s8 wr => s8 = .int .i64 0 ∧ Hid (Kb 0 w wr)) (fun s8 _ => 0)
  case atStart => exact ⟨rfl, HK1⟩
  case round =>
    clear hmk hcp
    obtain ⟨rfl, HX⟩ := hrel
    go_wp2_with fail
    go_ret
    exact ⟨⟨_, _, rfl⟩, HX⟩
set_option maxHeartbeats 8000000 in
theorem im_ln_2 {n m k f l : Int} {x y z : ByteArray} {pk : Option Addr} {q ck : Nat} (w : World) (hy : y.size ≤ 281474976710656) :
    Calls Try.prog 33 #[.agg #[.int .i64 2, .int .i64 n, .int .i64 m, .string x, .string y, .int .i64 k, .int .i64 f, .int .i64 l, .string z, .slice pk q ck]] w (LnP [{ data := #[105, 110, 112, 117, 116] }, y] w) := by
  obtain ⟨w0, hw0⟩ : ∃ w0, w0 = w.alloc (.cells #[.int .i64 2, .int .i64 n, .int .i64 m, .string x, .string y, .int .i64 k, .int .i64 f, .int .i64 l, .string z, .slice pk q ck] 35) := ⟨_, rfl⟩
  have bw0 : w0.heap[w.heap.size]? = some (.cells #[.int .i64 2, .int .i64 n, .int .i64 m, .string x, .string y, .int .i64 k, .int .i64 f, .int .i64 l, .string z, .slice pk q ck] 35 (0, 0)) := by rw [hw0]; exact alloc_new _ _ _
  have kw0 : Kb 0 w w0 := by rw [hw0]; exact kb_alloc _ _ _
  have c0 : w0.cell? ⟨w.heap.size, 0, none⟩ = some (.int .i64 2) := cell_of bw0 rfl
  have c1 : w0.cell? ⟨w.heap.size, 1, none⟩ = some (.int .i64 n) := cell_of bw0 rfl
  have c2 : w0.cell? ⟨w.heap.size, 2, none⟩ = some (.int .i64 m) := cell_of bw0 rfl
  have c3 : w0.cell? ⟨w.heap.size, 3, none⟩ = some (.string x) := cell_of bw0 rfl
  have c4 : w0.cell? ⟨w.heap.size, 4, none⟩ = some (.string y) := cell_of bw0 rfl
  have c5 : w0.cell? ⟨w.heap.size, 5, none⟩ = some (.int .i64 k) := cell_of bw0 rfl
  have c6 : w0.cell? ⟨w.heap.size, 6, none⟩ = some (.int .i64 f) := cell_of bw0 rfl
  have c7 : w0.cell? ⟨w.heap.size, 7, none⟩ = some (.int .i64 l) := cell_of bw0 rfl
  have c8 : w0.cell? ⟨w.heap.size, 8, none⟩ = some (.string z) := cell_of bw0 rfl
  have c9 : w0.cell? ⟨w.heap.size, 9, none⟩ = some (.slice pk q ck) := cell_of bw0 rfl
  have HB : Hid (w0 = _) := hw0
  have HK : Hid (Kb 0 w w0) := kw0
  clear hw0 bw0 kw0
  have HC := im_clone y hy w0
  clear hy
  go_enter Try.func33, Try.ntmps33
  go_upto_region 1 with fail
  rw [← (show w0 = _ from HB)]
  clear HB
  go_wp2_with fail
  refine HC.mono ?_
  rintro e w1 ⟨rfl, b1⟩
  have HF : Hid (Kb 0 w w1) := (show Kb 0 w w0 from HK).trans (Kb.of_below b1 0)
  clear HC b1 HK c0 c1 c2 c3 c4 c5 c6 c7 c8 c9
  go_wp2_with fail
  go_ret
  exact ⟨_, rfl, rows_blk (L := [{ data := #[105, 110, 112, 117, 116] }, y]) (alloc_new w1 _ _) (Nat.le_refl _), (show Kb 0 w w1 from HF).trans (kb_alloc _ _ _)⟩
set_option maxHeartbeats 8000000 in
theorem im_ln_3 {m k f l : Int} {x y z : ByteArray} {pk : Option Addr} {q ck : Nat} {N : Nat} (w : World) (hN : N ≤ 50) :
    Calls Try.prog 33 #[.agg #[.int .i64 3, .int .i64 (N : Int), .int .i64 m, .string x, .string y, .int .i64 k, .int .i64 f, .int .i64 l, .string z, .slice pk q ck]] w (LnP (List.replicate N { data := #[116, 105, 99, 107] }) w) := by
  obtain ⟨w0, hw0⟩ : ∃ w0, w0 = w.alloc (.cells #[.int .i64 3, .int .i64 (N : Int), .int .i64 m, .string x, .string y, .int .i64 k, .int .i64 f, .int .i64 l, .string z, .slice pk q ck] 35) := ⟨_, rfl⟩
  have bw0 : w0.heap[w.heap.size]? = some (.cells #[.int .i64 3, .int .i64 (N : Int), .int .i64 m, .string x, .string y, .int .i64 k, .int .i64 f, .int .i64 l, .string z, .slice pk q ck] 35 (0, 0)) := by rw [hw0]; exact alloc_new _ _ _
  have kw0 : Kb 0 w w0 := by rw [hw0]; exact kb_alloc _ _ _
  have c0 : w0.cell? ⟨w.heap.size, 0, none⟩ = some (.int .i64 3) := cell_of bw0 rfl
  have c1 : w0.cell? ⟨w.heap.size, 1, none⟩ = some (.int .i64 (N : Int)) := cell_of bw0 rfl
  have c2 : w0.cell? ⟨w.heap.size, 2, none⟩ = some (.int .i64 m) := cell_of bw0 rfl
  have c3 : w0.cell? ⟨w.heap.size, 3, none⟩ = some (.string x) := cell_of bw0 rfl
  have c4 : w0.cell? ⟨w.heap.size, 4, none⟩ = some (.string y) := cell_of bw0 rfl
  have c5 : w0.cell? ⟨w.heap.size, 5, none⟩ = some (.int .i64 k) := cell_of bw0 rfl
  have c6 : w0.cell? ⟨w.heap.size, 6, none⟩ = some (.int .i64 f) := cell_of bw0 rfl
  have c7 : w0.cell? ⟨w.heap.size, 7, none⟩ = some (.int .i64 l) := cell_of bw0 rfl
  have c8 : w0.cell? ⟨w.heap.size, 8, none⟩ = some (.string z) := cell_of bw0 rfl
  have c9 : w0.cell? ⟨w.heap.size, 9, none⟩ = some (.slice pk q ck) := cell_of bw0 rfl
  have HB : Hid (w0 = _) := hw0
  have HK : Hid (Kb 0 w w0) := kw0
  clear hw0 bw0 kw0
  obtain ⟨w1, hw1⟩ : ∃ w1, w1 = w0.alloc (.cells #[.string { data := #[116, 105, 99, 107] }] 9) := ⟨_, rfl⟩
  have bw1 : w1.heap[w0.heap.size]? = some (.cells #[.string { data := #[116, 105, 99, 107] }] 9 (0, 0)) := by rw [hw1]; exact alloc_new _ _ _
  have k01 : Kb 0 w0 w1 := by rw [hw1]; exact kb_alloc _ _ _
  have HR : Calls Try.prog 37 #[.slice (some ⟨w0.heap.size, 0, none⟩) 1 1, .int .i64 (N : Int)] w1 (LnP (List.replicate N { data := #[116, 105, 99, 107] }) w1) := by
    by_cases h0 : N = 0
    · subst h0
      exact (im_repeat0 (g := w0.heap.size) w1 (cell_of bw1 rfl)).mono (fun e w' ⟨⟨p, c, h1⟩, h2⟩ => ⟨_, h1, ⟨p, c, rfl, fun q => absurd q (Nat.lt_irrefl 0)⟩, h2⟩)
    · refine (im_repeat (g := w0.heap.size) (by omega) hN w1 (cell_of bw1 rfl)).mono (fun e w' ⟨h1, h2, h3, h4⟩ => ⟨_, h1, ⟨_, _, by rw [List.length_replicate], fun _ => ⟨_, rfl, by rw [List.length_replicate]; exact Nat.le_refl _, fun j s hs => ?_⟩⟩, h3⟩)
      obtain ⟨hj, rfl⟩ := List.getElem?_eq_some_iff.1 hs
      rw [List.length_replicate] at hj
      rw [addr0, List.getElem_replicate]
      exact h2.cell j hj
  have cA : ∀ o, (w0.alloc o).cell? ⟨w.heap.size, 1, none⟩ = some (.int .i64 (N : Int)) := fun o => (kb_alloc 0 w0 o).cell c1
  have HK1 : Hid (Kb 0 w w1) := (show Kb 0 w w0 from HK).trans k01
  have HW1 : Hid (w1 = _) := hw1
  obtain ⟨LL, hLL⟩ : ∃ LL : List ByteArray, LL = List.replicate N { data := #[116, 105, 99, 107] } := ⟨_, rfl⟩
  rw [← hLL] at HR ⊢
  clear hw1 bw1 k01 hN HK hLL
  go_enter Try.func33, Try.ntmps33
  go_upto_region 1 with fail
  rw [← (show w0 = _ from HB)]
  clear HB
  go_wp2_with fail
  rw [← (show w1 = _ from HW1)]
  refine HR.mono ?_
  rintro e w2 ⟨v2, rfl, r2, k2⟩
  obtain ⟨p2, c2', rfl, -⟩ := id r2
  have HF : Hid (RowS w2 (.slice p2 LL.length c2') LL ∧ Kb 0 w w2) := (⟨r2, (show Kb 0 w w1 from HK1).trans k2⟩ : _ ∧ _)
  clear HR HW1 r2 k2 cA c0 c1 c2 c3 c4 c5 c6 c7 c8 c9
  go_wp2_with fail
  go_ret
  exact ⟨_, rfl, HF⟩
set_option maxHeartbeats 8000000 in
theorem im_ln_4 {n m k f l : Int} {x y z : ByteArray} {pk : Option Addr} {q ck : Nat} (w : World) (hx : x.size ≤ 281474976710656) (hy : y.size ≤ 281474976710656) :
    Calls Try.prog 33 #[.agg #[.int .i64 4, .int .i64 n, .int .i64 m, .string x, .string y, .int .i64 k, .int .i64 f, .int .i64 l, .string z, .slice pk q ck]] w (LnP [{ data := #[115, 97, 121] }, x, y] w) := by
  obtain ⟨w0, hw0⟩ : ∃ w0, w0 = w.alloc (.cells #[.int .i64 4, .int .i64 n, .int .i64 m, .string x, .string y, .int .i64 k, .int .i64 f, .int .i64 l, .string z, .slice pk q ck] 35) := ⟨_, rfl⟩
  have bw0 : w0.heap[w.heap.size]? = some (.cells #[.int .i64 4, .int .i64 n, .int .i64 m, .string x, .string y, .int .i64 k, .int .i64 f, .int .i64 l, .string z, .slice pk q ck] 35 (0, 0)) := by rw [hw0]; exact alloc_new _ _ _
  have kw0 : Kb 0 w w0 := by rw [hw0]; exact kb_alloc _ _ _
  have c0 : w0.cell? ⟨w.heap.size, 0, none⟩ = some (.int .i64 4) := cell_of bw0 rfl
  have c1 : w0.cell? ⟨w.heap.size, 1, none⟩ = some (.int .i64 n) := cell_of bw0 rfl
  have c2 : w0.cell? ⟨w.heap.size, 2, none⟩ = some (.int .i64 m) := cell_of bw0 rfl
  have c3 : w0.cell? ⟨w.heap.size, 3, none⟩ = some (.string x) := cell_of bw0 rfl
  have c4 : w0.cell? ⟨w.heap.size, 4, none⟩ = some (.string y) := cell_of bw0 rfl
  have c5 : w0.cell? ⟨w.heap.size, 5, none⟩ = some (.int .i64 k) := cell_of bw0 rfl
  have c6 : w0.cell? ⟨w.heap.size, 6, none⟩ = some (.int .i64 f) := cell_of bw0 rfl
  have c7 : w0.cell? ⟨w.heap.size, 7, none⟩ = some (.int .i64 l) := cell_of bw0 rfl
  have c8 : w0.cell? ⟨w.heap.size, 8, none⟩ = some (.string z) := cell_of bw0 rfl
  have c9 : w0.cell? ⟨w.heap.size, 9, none⟩ = some (.slice pk q ck) := cell_of bw0 rfl
  have HB : Hid (w0 = _) := hw0
  have HK : Hid (Kb 0 w w0) := kw0
  clear hw0 bw0 kw0
  have HC : Hid (∀ W, Calls Try.prog 36 #[.string x] W fun e w' => e = .returned (.string x) ∧ Below W.heap.size W w') := (fun W => im_clone x hx W : ∀ W, _)
  have HD : Hid (∀ W, Calls Try.prog 36 #[.string y] W fun e w' => e = .returned (.string y) ∧ Below W.heap.size W w') := (fun W => im_clone y hy W : ∀ W, _)
  clear hx hy
  go_enter Try.func33, Try.ntmps33
  go_upto_region 1 with fail
  rw [← (show w0 = _ from HB)]
  clear HB
  go_upto_region 9 with fail
  refine AnyL.region (S := fun W' => W'.cell? ⟨w.heap.size, 3, none⟩ = some (.string x) ∧ W'.cell? ⟨w.heap.size, 4, none⟩ = some (.string y)) (z := 7) (by kernel_rfl) ?_
  obtain ⟨W0, hW0⟩ : ∃ W0, W0 = w0.drew := ⟨_, rfl⟩
  have k0 : Kb 0 w0 W0 := by rw [hW0]; exact Kb.drewN (Kb.refl _ _) 1
  have HK0 : Hid (Kb 0 w W0) := (show Kb 0 w w0 from HK).trans k0
  have hS0 : (fun W' : World => W'.cell? ⟨w.heap.size, 3, none⟩ = some (.string x) ∧ W'.cell? ⟨w.heap.size, 4, none⟩ = some (.string y)) W0 := ⟨k0.cell c3, k0.cell c4⟩
  rw [← hW0]
  clear hW0 k0 HK c0 c1 c2 c3 c4 c5 c6 c7 c8 c9
  refine AnyL.takeAt 0 (.pointer (some ⟨w.heap.size, 3, none⟩)) rfl (by kernel_rfl) (by kernel_rfl) (by kernel_rfl) (by kernel_rfl) (fun _ _ _ h => h) rfl hS0 (by intro W hW; first | go_simp | (obtain ⟨i0, i1⟩ := hW; go_simp)) ?_
  try simp only [Act.put, List.setIfInBounds_toArray, List.set_cons_zero, List.set_cons_succ]
  refine AnyL.takeAt 1 (.string x) rfl (by kernel_rfl) (by kernel_rfl) (by kernel_rfl) (by kernel_rfl) (fun _ _ _ h => h) rfl hS0 (by intro W hW; first | go_simp | (obtain ⟨i0, i1⟩ := hW; go_simp)) ?_
  try simp only [Act.put, List.setIfInBounds_toArray, List.set_cons_zero, List.set_cons_succ]
  refine AnyL.takeAt 3 (.pointer (some ⟨w.heap.size, 4, none⟩)) rfl (by kernel_rfl) (by kernel_rfl) (by kernel_rfl) (by kernel_rfl) (fun _ _ _ h => h) rfl hS0 (by intro W hW; first | go_simp | (obtain ⟨i0, i1⟩ := hW; go_simp)) ?_
  try simp only [Act.put, List.setIfInBounds_toArray, List.set_cons_zero, List.set_cons_succ]
  refine AnyL.takeAt 4 (.string y) rfl (by kernel_rfl) (by kernel_rfl) (by kernel_rfl) (by kernel_rfl) (fun _ _ _ h => h) rfl hS0 (by intro W hW; first | go_simp | (obtain ⟨i0, i1⟩ := hW; go_simp)) ?_
  try simp only [Act.put, List.setIfInBounds_toArray, List.set_cons_zero, List.set_cons_succ]
  refine AnyL.oneAt 2 rfl (by kernel_rfl) rfl ?_
  intro K hK
  go_simp
  refine ((show ∀ W, _ from HC) W0).mono ?_
  rintro e W1 ⟨rfl, b1⟩
  have hS1 : W1.cell? ⟨w.heap.size, 3, none⟩ = some (.string x) ∧ W1.cell? ⟨w.heap.size, 4, none⟩ = some (.string y) := ⟨(Kb.of_below b1 0).cell hS0.1, (Kb.of_below b1 0).cell hS0.2⟩
  have HK1 : Hid (Kb 0 w W1) := (show Kb 0 w W0 from HK0).trans (Kb.of_below b1 0)
  clear b1 hS0 HK0 HC
  refine hK.out _ _ (fun _ => hS1) ?_
  clear hK K
  try simp only [Act.put, List.setIfInBounds_toArray, List.set_cons_zero, List.set_cons_succ]
  refine AnyL.oneAt 5 rfl (by kernel_rfl) rfl ?_
  intro K hK
  go_simp
  refine ((show ∀ W, _ from HD) W1).mono ?_
  rintro e W2 ⟨rfl, b2⟩
  have hS2 : W2.cell? ⟨w.heap.size, 3, none⟩ = some (.string x) ∧ W2.cell? ⟨w.heap.size, 4, none⟩ = some (.string y) := ⟨(Kb.of_below b2 0).cell hS1.1, (Kb.of_below b2 0).cell hS1.2⟩
  have HK2 : Hid (Kb 0 w W2) := (show Kb 0 w W1 from HK1).trans (Kb.of_below b2 0)
  clear b2 hS1 HK1 HD
  refine hK.out _ _ (fun _ => hS2) ?_
  clear hK K
  try simp only [Act.put, List.setIfInBounds_toArray, List.set_cons_zero, List.set_cons_succ]
  refine AnyL.oneAt 6 rfl (by kernel_rfl) rfl ?_
  intro K hK
  go_simp
  refine hK.out _ _ (fun _ => ⟨(kb_alloc 0 W2 _).cell hS2.1, (kb_alloc 0 W2 _).cell hS2.2⟩) ?_
  clear hK K
  try simp only [Act.put, List.setIfInBounds_toArray, List.set_cons_zero, List.set_cons_succ]
  refine AnyL.oneAt 7 rfl (by kernel_rfl) rfl ?_
  intro K hK
  go_simp
  refine hK.out _ _ (fun h => absurd rfl h) ?_
  clear hK K hS2
  try simp only [Act.put, List.setIfInBounds_toArray, List.set_cons_zero, List.set_cons_succ]
  refine AnyL.done (by kernel_rfl) ?_
  go_wp2_with fail
  go_ret
  exact ⟨_, rfl, rows_blk (L := [{ data := #[115, 97, 121] }, x, y]) (alloc_new W2 _ _) (Nat.le_refl _), (show Kb 0 w W2 from HK2).trans (kb_alloc _ _ _)⟩
theorem im_lines {op n m k f l : Int} {x y z : ByteArray} {pk : Option Addr} {q ck : Nat} (w : World) (hn : op = 3 → 0 ≤ n ∧ n ≤ 50) (hx : x.size ≤ 281474976710656) (hy : y.size ≤ 281474976710656) : Calls Try.prog 33 #[.agg #[.int .i64 op, .int .i64 n, .int .i64 m, .string x, .string y, .int .i64 k, .int .i64 f, .int .i64 l, .string z, .slice pk q ck]] w (LnP (lns op n x y) w) := by
  unfold lns
  by_cases h1 : op = 1
  · subst h1; rw [if_pos rfl]; exact im_ln_1 w
  rw [if_neg h1]
  by_cases h2 : op = 2
  · subst h2; rw [if_pos rfl]; exact im_ln_2 w hy
  rw [if_neg h2]
  by_cases h3 : op = 3
  · subst h3
    rw [if_pos rfl]
    obtain ⟨N, rfl⟩ : ∃ N : Nat, n = (N : Int) := ⟨n.toNat, by have := hn rfl; omega⟩
    rw [Int.toNat_natCast]
    exact im_ln_3 w (by have := hn rfl; omega)
  rw [if_neg h3]
  by_cases h4 : op = 4
  · subst h4; rw [if_pos rfl]; exact im_ln_4 w hx hy
  rw [if_neg h4]
  exact im_ln_x w h1 h2 h3 h4
end Go.Proofs.Ytaoagjajjeddcaa.Fo
