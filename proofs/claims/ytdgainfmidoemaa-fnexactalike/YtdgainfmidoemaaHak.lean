import Derived.Test.YtdgainfmidoemaaHaj
import Derived.Test.YtdgainfmidoemaaHaf
import Derived.Test.YtdgainfmidoemaaGej
namespace Go.Proofs.Ytdgainfmidoemaa.Fo
open Go.ChangeShapes Go.WideShapes Go.ChangeAt Go.RowKit
set_option linter.unusedVariables false
set_option maxRecDepth 100000
theorem s5_os (W : World) (B : Nat) (k m : Int) (x : ByteArray) (r : Int) (v : Value) : (s5 W B k m x r v).os = W.os ∧ (s5 W B k m x r v).output = W.output := by
  constructor
  · unfold s5 s4; rfl
  · unfold s5 s4; rfl
set_option maxHeartbeats 16000000 in
theorem im_alike {a b : Gv} {va vb : Value} {n n' : Nat} {F F' : Nat → Td} (w : World) (ha : RowT 0 w va n F) (hv : RowT 0 w vb n' F') (hb : Bg n F a) (hb' : Bg n' F' b) :
    Calls Try.prog 23 #[grv a va, grv b vb] w fun e w' => e = .returned (.bool (dc (Alk n F a n' F' b))) ∧ Kb 0 w w' := by
  obtain ⟨pa, ca, rfl, -⟩ := id ha
  obtain ⟨pb, cb, rfl, -⟩ := id hv
  obtain ⟨w2, hw2⟩ : ∃ w2, w2 = (w.alloc (.cells #[.int .i64 a.k, .int .i64 a.m, .string a.x, .int .i64 a.r, .slice pa n ca] 32)).alloc (.cells #[.int .i64 b.k, .int .i64 b.m, .string b.x, .int .i64 b.r, .slice pb n' cb] 32) := ⟨_, rfl⟩
  have k2 : Kb 0 w w2 := by rw [hw2]; exact kb_alloc2 _ _ _ _
  have z2 : w2.heap.size = w.heap.size + 1 + 1 := by rw [hw2]; simp
  have b0 : w2.heap[w.heap.size]? = some (.cells #[.int .i64 a.k, .int .i64 a.m, .string a.x, .int .i64 a.r, .slice pa n ca] 32 (0, 0)) := by
    rw [hw2, (kb_alloc 0 _ _).block _ (Nat.zero_le _) (by rw [World.size_alloc]; omega)]
    exact alloc_new _ _ _
  have b1 : w2.heap[w.heap.size + 1]? = some (.cells #[.int .i64 b.k, .int .i64 b.m, .string b.x, .int .i64 b.r, .slice pb n' cb] 32 (0, 0)) := by
    have e : (w.alloc (.cells #[.int .i64 a.k, .int .i64 a.m, .string a.x, .int .i64 a.r, .slice pa n ca] 32)).heap.size = w.heap.size + 1 := World.size_alloc _ _
    rw [hw2, ← e]
    exact alloc_new _ _ _
  have HW2 : Hid (w2 = (w.alloc (.cells #[.int .i64 a.k, .int .i64 a.m, .string a.x, .int .i64 a.r, .slice pa n ca] 32)).alloc (.cells #[.int .i64 b.k, .int .i64 b.m, .string b.x, .int .i64 b.r, .slice pb n' cb] 32)) := hw2
  have HG1 := im_gok (a := a) w2 (ha.keep k2) hb
  have HG2 : Hid (∀ W, Kb 0 w2 W → Calls Try.prog 12 #[.agg #[.int .i64 b.k, .int .i64 b.m, .string b.x, .int .i64 b.r, .slice pb n' cb]] W fun e w' => e = .returned (.bool (dc (Gok n' F' b))) ∧ Kb 0 W w') := (fun W k => im_gok W (hv.keep (k2.trans k)) hb' : ∀ W, _)
  obtain ⟨R, hR⟩ : ∃ R, R = dc (Alk n F a n' F' b) := ⟨_, rfl⟩
  rw [← hR]
  have HR : Hid (R = dc (Alk n F a n' F' b)) := hR
  have v0 : w2.cell? ⟨w.heap.size, 0, none⟩ = some (.int .i64 a.k) := cell_of b0 rfl
  have v1 : w2.cell? ⟨w.heap.size, 1, none⟩ = some (.int .i64 a.m) := cell_of b0 rfl
  have v2 : w2.cell? ⟨w.heap.size, 2, none⟩ = some (.string a.x) := cell_of b0 rfl
  have v3 : w2.cell? ⟨w.heap.size, 3, none⟩ = some (.int .i64 a.r) := cell_of b0 rfl
  have v4 : w2.cell? ⟨w.heap.size, 4, none⟩ = some (.slice pa n ca) := cell_of b0 rfl
  have HALL : Hid (Kb 0 w w2 ∧ w2.heap.size = w.heap.size + 1 + 1 ∧ w2.heap[w.heap.size]? = some (.cells #[.int .i64 a.k, .int .i64 a.m, .string a.x, .int .i64 a.r, .slice pa n ca] 32 (0, 0)) ∧ w2.heap[w.heap.size + 1]? = some (.cells #[.int .i64 b.k, .int .i64 b.m, .string b.x, .int .i64 b.r, .slice pb n' cb] 32 (0, 0)) ∧ RowT 0 w (.slice pa n ca) n F ∧ RowT 0 w (.slice pb n' cb) n' F' ∧ Bg n F a ∧ Bg n' F' b) := (⟨k2, z2, b0, b1, ha, hv, hb, hb'⟩ : _ ∧ _)
  unfold grv at HG1 ⊢
  clear hR hw2 k2 z2 b0 b1 ha hv hb hb'
  go_enter Try.func23, Try.ntmps23
  go_upto_region 1 with fail
  rw [← (show w2 = _ from HW2)]
  clear HW2
  go_wp2_with fail
  refine HG1.mono ?_
  rintro e w3 ⟨rfl, k3⟩
  clear HG1 v0 v1 v2 v3 v4
  obtain ⟨k2, z2, b0, b1, ha, hv, hb, hb'⟩ := (show Kb 0 w w2 ∧ w2.heap.size = w.heap.size + 1 + 1 ∧ w2.heap[w.heap.size]? = some (.cells #[.int .i64 a.k, .int .i64 a.m, .string a.x, .int .i64 a.r, .slice pa n ca] 32 (0, 0)) ∧ w2.heap[w.heap.size + 1]? = some (.cells #[.int .i64 b.k, .int .i64 b.m, .string b.x, .int .i64 b.r, .slice pb n' cb] 32 (0, 0)) ∧ RowT 0 w (.slice pa n ca) n F ∧ RowT 0 w (.slice pb n' cb) n' F' ∧ Bg n F a ∧ Bg n' F' b from HALL)
  by_cases hA : Gok n F a
  case neg =>
    rw [dc_f hA]
    obtain rfl : R = false := (show R = _ from HR).trans (dc_f (fun q => hA q.1))
    have HK : Hid (Kb 0 w w3) := k2.trans k3
    clear HALL HG2 HR hA k2 z2 b0 b1 ha hv hb hb' k3
    go_wp2_with fail
    go_ret
    exact ⟨rfl, HK⟩
  rw [dc_t hA]
  have HG3 := (show ∀ W, Kb 0 w2 W → _ from HG2) w3 k3
  have c1 := (k3.block (w.heap.size + 1) (Nat.zero_le _) (by omega)).trans b1
  have v0 : w3.cell? ⟨w.heap.size + 1, 0, none⟩ = some (.int .i64 b.k) := cell_of c1 rfl
  have v1 : w3.cell? ⟨w.heap.size + 1, 1, none⟩ = some (.int .i64 b.m) := cell_of c1 rfl
  have v2 : w3.cell? ⟨w.heap.size + 1, 2, none⟩ = some (.string b.x) := cell_of c1 rfl
  have v3 : w3.cell? ⟨w.heap.size + 1, 3, none⟩ = some (.int .i64 b.r) := cell_of c1 rfl
  have v4 : w3.cell? ⟨w.heap.size + 1, 4, none⟩ = some (.slice pb n' cb) := cell_of c1 rfl
  have HK3 : Hid (Kb 0 w2 w3 ∧ Gok n F a) := (⟨k3, hA⟩ : _ ∧ _)
  clear HG2 k2 z2 b0 b1 ha hv hb hb' k3 hA c1
  go_wp2_with fail
  refine HG3.mono ?_
  rintro e w4 ⟨rfl, k4⟩
  clear HG3 v0 v1 v2 v3 v4
  obtain ⟨k2, z2, b0, b1, ha, hv, hb, hb'⟩ := (show Kb 0 w w2 ∧ w2.heap.size = w.heap.size + 1 + 1 ∧ w2.heap[w.heap.size]? = some (.cells #[.int .i64 a.k, .int .i64 a.m, .string a.x, .int .i64 a.r, .slice pa n ca] 32 (0, 0)) ∧ w2.heap[w.heap.size + 1]? = some (.cells #[.int .i64 b.k, .int .i64 b.m, .string b.x, .int .i64 b.r, .slice pb n' cb] 32 (0, 0)) ∧ RowT 0 w (.slice pa n ca) n F ∧ RowT 0 w (.slice pb n' cb) n' F' ∧ Bg n F a ∧ Bg n' F' b from HALL)
  obtain ⟨k3, hA⟩ := (show Kb 0 w2 w3 ∧ Gok n F a from HK3)
  have k24 := k3.trans k4
  have kw4 := k2.trans k24
  by_cases hB : Gok n' F' b
  case neg =>
    rw [dc_f hB]
    obtain rfl : R = false := (show R = _ from HR).trans (dc_f (fun q => hB q.2.1))
    have HK : Hid (Kb 0 w w4) := kw4
    clear HALL HR hA k2 z2 b0 b1 ha hv hb hb' k3 HK3 k4 k24 kw4 hB
    go_wp2_with fail
    go_ret
    exact ⟨rfl, HK⟩
  rw [dc_t hB]
  have c0 := (k24.block w.heap.size (Nat.zero_le _) (by omega)).trans b0
  have c1 := (k24.block (w.heap.size + 1) (Nat.zero_le _) (by omega)).trans b1
  have z4 := k24.size
  obtain ⟨o, ho⟩ : ∃ o, o = cO n F a := ⟨_, rfl⟩
  obtain ⟨o', ho'⟩ : ∃ o', o' = cO n' F' b := ⟨_, rfl⟩
  obtain ⟨A, hRA⟩ : ∃ A, A = rnm o a := ⟨_, rfl⟩
  obtain ⟨B, hRB⟩ : ∃ B, B = rnm o' b := ⟨_, rfl⟩
  have hL : (o.length ≤ 1048576 ∧ o'.length ≤ 1048576) ∧ (∀ i, i < o.length → (cnF F o i).c ≤ 1048576) ∧ ∀ i, i < o'.length → (cnF F' o' i).c ≤ 1048576 := by
    have h1 := nl_cO (gok_lk hA)
    have h2 := nl_cO (gok_lk hB)
    rw [← ho] at h1
    rw [← ho'] at h2
    refine ⟨⟨Nat.le_trans (nl_len _ _ h1) hb.hn, Nat.le_trans (nl_len _ _ h2) hb'.hn⟩, fun i hi => hb.hc _ (nth_lt h1 hi).1, fun i hi => hb'.hc _ (nth_lt h2 hi).1⟩
  have hRR : R = dc (A = B ∧ Nse o.length o'.length (cnF F o) (cnF F' o')) := by
    rw [show R = _ from HR]
    by_cases q : A = B ∧ Nse o.length o'.length (cnF F o) (cnF F' o')
    · rw [dc_t q]
      refine dc_t ⟨hA, hB, ?_⟩
      rw [← ho, ← ho', ← hRA, ← hRB]
      unfold cF
      rw [← ho, ← ho']
      exact q
    · rw [dc_f q]
      refine dc_f (fun z => q ?_)
      have z2 := z.2.2
      unfold cF at z2
      rw [← ho, ← ho', ← hRA, ← hRB] at z2
      exact z2
  have HFA : Hid (∀ W, Kb 0 w4 W → Calls Try.prog 43 #[.agg #[.int .i64 a.k, .int .i64 a.m, .string a.x, .int .i64 a.r, .slice pa n ca]] W fun e w' => ∃ p c, e = .returned (.agg #[.int .i64 A.k, .int .i64 A.m, .string A.x, .int .i64 A.r, .slice p o.length c]) ∧ RowT (w.heap.size + 1 + 1) w' (.slice p o.length c) o.length (cnF F o) ∧ Kb 0 W w') := (fun W k => (im_form W (ha.keep (kw4.trans k)) hb (gok_lk hA)).mono (fun e w' ⟨v, V, he, hf⟩ => by
    have hr := hf.row
    obtain ⟨p, c, rfl⟩ := own_shape hf.nn
    refine ⟨p, c, by rw [he, hRA, ho]; rfl, ?_, hf.kb⟩
    rw [ho]
    exact hr.mono (by have := k.size; omega)) : ∀ W, _)
  have HFB : Hid (∀ W, Kb 0 w4 W → Calls Try.prog 43 #[.agg #[.int .i64 b.k, .int .i64 b.m, .string b.x, .int .i64 b.r, .slice pb n' cb]] W fun e w' => ∃ p c, e = .returned (.agg #[.int .i64 B.k, .int .i64 B.m, .string B.x, .int .i64 B.r, .slice p o'.length c]) ∧ RowT (w.heap.size + 1 + 1) w' (.slice p o'.length c) o'.length (cnF F' o') ∧ Kb 0 W w') := (fun W k => (im_form W (hv.keep (kw4.trans k)) hb' (gok_lk hB)).mono (fun e w' ⟨v, V, he, hf⟩ => by
    have hr := hf.row
    obtain ⟨p, c, rfl⟩ := own_shape hf.nn
    refine ⟨p, c, by rw [he, hRB, ho']; rfl, ?_, hf.kb⟩
    rw [ho']
    exact hr.mono (by have := k.size; omega)) : ∀ W, _)
  have HCC : Hid (w4.heap[w.heap.size]? = some (.cells #[.int .i64 a.k, .int .i64 a.m, .string a.x, .int .i64 a.r, .slice pa n ca] 32 (0, 0)) ∧ w4.heap[w.heap.size + 1]? = some (.cells #[.int .i64 b.k, .int .i64 b.m, .string b.x, .int .i64 b.r, .slice pb n' cb] 32 (0, 0)) ∧ Kb 0 w w4 ∧ w.heap.size + 1 + 1 ≤ w4.heap.size) := (⟨c0, c1, kw4, by omega⟩ : _ ∧ _)
  have HLL : Hid ((o.length ≤ 1048576 ∧ o'.length ≤ 1048576) ∧ (∀ i, i < o.length → (cnF F o i).c ≤ 1048576) ∧ ∀ i, i < o'.length → (cnF F' o' i).c ≤ 1048576) := hL
  have HRR : Hid (R = dc (A = B ∧ Nse o.length o'.length (cnF F o) (cnF F' o'))) := hRR
  have v0 : w4.cell? ⟨w.heap.size, 0, none⟩ = some (.int .i64 a.k) := cell_of c0 rfl
  have v1 : w4.cell? ⟨w.heap.size, 1, none⟩ = some (.int .i64 a.m) := cell_of c0 rfl
  have v2 : w4.cell? ⟨w.heap.size, 2, none⟩ = some (.string a.x) := cell_of c0 rfl
  have v3 : w4.cell? ⟨w.heap.size, 3, none⟩ = some (.int .i64 a.r) := cell_of c0 rfl
  have v4 : w4.cell? ⟨w.heap.size, 4, none⟩ = some (.slice pa n ca) := cell_of c0 rfl
  have hS0 : (fun W' : World => (W'.cell? ⟨w.heap.size + 1, 0, none⟩ = some (.int .i64 b.k) ∧ W'.cell? ⟨w.heap.size + 1, 1, none⟩ = some (.int .i64 b.m) ∧ W'.cell? ⟨w.heap.size + 1, 2, none⟩ = some (.string b.x) ∧ W'.cell? ⟨w.heap.size + 1, 3, none⟩ = some (.int .i64 b.r) ∧ W'.cell? ⟨w.heap.size + 1, 4, none⟩ = some (.slice pb n' cb))) w4.drew := (⟨cell_of c1 rfl, cell_of c1 rfl, cell_of c1 rfl, cell_of c1 rfl, cell_of c1 rfl⟩ : (fun W' : World => (W'.cell? ⟨w.heap.size + 1, 0, none⟩ = some (.int .i64 b.k) ∧ W'.cell? ⟨w.heap.size + 1, 1, none⟩ = some (.int .i64 b.m) ∧ W'.cell? ⟨w.heap.size + 1, 2, none⟩ = some (.string b.x) ∧ W'.cell? ⟨w.heap.size + 1, 3, none⟩ = some (.int .i64 b.r) ∧ W'.cell? ⟨w.heap.size + 1, 4, none⟩ = some (.slice pb n' cb))) w4)
  obtain ⟨N, hN⟩ : ∃ N, N = o.length := ⟨_, rfl⟩
  obtain ⟨M, hM⟩ : ∃ M, M = o'.length := ⟨_, rfl⟩
  obtain ⟨FA, hFA⟩ : ∃ FA, FA = cnF F o := ⟨_, rfl⟩
  obtain ⟨FB, hFB⟩ : ∃ FB, FB = cnF F' o' := ⟨_, rfl⟩
  rw [← hN, ← hM, ← hFA, ← hFB] at HLL HRR
  rw [← hN, ← hFA] at HFA
  rw [← hM, ← hFB] at HFB
  clear HALL HR hA hB k2 z2 b0 b1 ha hv hb hb' k3 HK3 k4 k24 kw4 c0 c1 z4 ho ho' hRA hRB hL hRR hN hM hFA hFB
  go_wp2_with fail
  go_upto_region 3 with fail
  refine AnyL.region (S := fun W' => (W'.cell? ⟨w.heap.size + 1, 0, none⟩ = some (.int .i64 b.k) ∧ W'.cell? ⟨w.heap.size + 1, 1, none⟩ = some (.int .i64 b.m) ∧ W'.cell? ⟨w.heap.size + 1, 2, none⟩ = some (.string b.x) ∧ W'.cell? ⟨w.heap.size + 1, 3, none⟩ = some (.int .i64 b.r) ∧ W'.cell? ⟨w.heap.size + 1, 4, none⟩ = some (.slice pb n' cb))) (z := 5) (by kernel_rfl) ?_
  refine AnyL.takeAt 2 (.agg #[.int .i64 b.k, .int .i64 b.m, .string b.x, .int .i64 b.r, .slice pb n' cb]) rfl (by kernel_rfl) (by kernel_rfl) (by kernel_rfl) (by kernel_rfl) (fun _ _ _ h => h) rfl hS0 (by intro W hW; obtain ⟨i0, i1, i2, i3, i4⟩ := hW; go_simp) ?_
  try simp only [Act.put, List.setIfInBounds_toArray, List.set_cons_zero, List.set_cons_succ]
  refine AnyL.oneAt 0 rfl (by kernel_rfl) rfl ?_
  intro K hK
  go_simp
  refine hK.out _ _ (fun _ => hS0) ?_
  clear hK K v0 v1 v2 v3 v4
  try simp only [Act.put, List.setIfInBounds_toArray, List.set_cons_zero, List.set_cons_succ]
  refine AnyL.oneAt 1 rfl (by kernel_rfl) rfl ?_
  intro K hK
  go_simp
  refine ((show ∀ W, Kb 0 w4 W → _ from HFA) _ (by exact Kb.drewN (Kb.refl _ _) 1)).mono ?_
  rintro e w5 ⟨p5, q5, rfl, r5, k5'⟩
  have k5 : Kb 0 w4 w5 := Kb.trans (Kb.drewN (Kb.refl _ _) 1) k5'
  obtain ⟨c0, c1, kw4, z4⟩ := (show w4.heap[w.heap.size]? = some (.cells #[.int .i64 a.k, .int .i64 a.m, .string a.x, .int .i64 a.r, .slice pa n ca] 32 (0, 0)) ∧ w4.heap[w.heap.size + 1]? = some (.cells #[.int .i64 b.k, .int .i64 b.m, .string b.x, .int .i64 b.r, .slice pb n' cb] 32 (0, 0)) ∧ Kb 0 w w4 ∧ w.heap.size + 1 + 1 ≤ w4.heap.size from HCC)
  have d1 := (k5.block (w.heap.size + 1) (Nat.zero_le _) (by omega)).trans c1
  have hS5 : (fun W' : World => (W'.cell? ⟨w.heap.size + 1, 0, none⟩ = some (.int .i64 b.k) ∧ W'.cell? ⟨w.heap.size + 1, 1, none⟩ = some (.int .i64 b.m) ∧ W'.cell? ⟨w.heap.size + 1, 2, none⟩ = some (.string b.x) ∧ W'.cell? ⟨w.heap.size + 1, 3, none⟩ = some (.int .i64 b.r) ∧ W'.cell? ⟨w.heap.size + 1, 4, none⟩ = some (.slice pb n' cb))) w5 := ⟨cell_of d1 rfl, cell_of d1 rfl, cell_of d1 rfl, cell_of d1 rfl, cell_of d1 rfl⟩
  have H5 : Hid (RowT (w.heap.size + 1 + 1) w5 (.slice p5 N q5) N FA ∧ Kb 0 w4 w5) := (⟨r5, k5⟩ : _ ∧ _)
  clear HFA r5 k5 k5' c0 c1 kw4 z4 d1 hS0
  refine hK.out _ _ (fun _ => hS5) ?_
  clear hK K
  try simp only [Act.put, List.setIfInBounds_toArray, List.set_cons_zero, List.set_cons_succ]
  refine AnyL.oneAt 3 rfl (by kernel_rfl) rfl ?_
  intro K hK
  go_simp
  refine ((show ∀ W, Kb 0 w4 W → _ from HFB) _ (show _ ∧ Kb 0 w4 w5 from H5).2).mono ?_
  rintro e w6 ⟨p6, q6, rfl, r6, k6⟩
  obtain ⟨r5, k5⟩ := (show RowT (w.heap.size + 1 + 1) w5 (.slice p5 N q5) N FA ∧ Kb 0 w4 w5 from H5)
  obtain ⟨c0, c1, kw4, z4⟩ := (show w4.heap[w.heap.size]? = some (.cells #[.int .i64 a.k, .int .i64 a.m, .string a.x, .int .i64 a.r, .slice pa n ca] 32 (0, 0)) ∧ w4.heap[w.heap.size + 1]? = some (.cells #[.int .i64 b.k, .int .i64 b.m, .string b.x, .int .i64 b.r, .slice pb n' cb] 32 (0, 0)) ∧ Kb 0 w w4 ∧ w.heap.size + 1 + 1 ≤ w4.heap.size from HCC)
  have k46 := k5.trans k6
  have z6 := k46.size
  have d0 := (k46.block w.heap.size (Nat.zero_le _) (by omega)).trans c0
  have d1 := (k46.block (w.heap.size + 1) (Nat.zero_le _) (by omega)).trans c1
  obtain ⟨W7, hW7⟩ : ∃ W7, W7 = s5 w6 w.heap.size A.k A.m A.x A.r (.slice p5 N q5) := ⟨_, rfl⟩
  have g0 : W7.heap[w.heap.size]? = some (.cells #[.int .i64 A.k, .int .i64 A.m, .string A.x, .int .i64 A.r, .slice p5 N q5] 32 (0, 0)) := by rw [hW7]; exact s5_known d0 _ _ _ _ _
  have g1 : W7.heap[w.heap.size + 1]? = some (.cells #[.int .i64 b.k, .int .i64 b.m, .string b.x, .int .i64 b.r, .slice pb n' cb] 32 (0, 0)) := by rw [hW7, s5_far _ _ _ _ _ _ (show w.heap.size + 1 ≠ w.heap.size by omega)]; exact d1
  obtain ⟨W8, hW8⟩ : ∃ W8, W8 = s5 W7 (w.heap.size + 1) B.k B.m B.x B.r (.slice p6 M q6) := ⟨_, rfl⟩
  have f0 : W8.heap[w.heap.size]? = some (.cells #[.int .i64 A.k, .int .i64 A.m, .string A.x, .int .i64 A.r, .slice p5 N q5] 32 (0, 0)) := by rw [hW8, s5_far _ _ _ _ _ _ (show w.heap.size ≠ w.heap.size + 1 by omega)]; exact g0
  have f1 : W8.heap[w.heap.size + 1]? = some (.cells #[.int .i64 B.k, .int .i64 B.m, .string B.x, .int .i64 B.r, .slice p6 M q6] 32 (0, 0)) := by rw [hW8]; exact s5_known g1 _ _ _ _ _
  have k68 : Kb (w.heap.size + 1 + 1) w6 W8 := by
    have q1 := s5_os w6 w.heap.size A.k A.m A.x A.r (.slice p5 N q5)
    have q2 := s5_os W7 (w.heap.size + 1) B.k B.m B.x B.r (.slice p6 M q6)
    rw [← hW7] at q1
    rw [← hW8] at q2
    refine ⟨q2.1.trans q1.1, q2.2.trans q1.2, by rw [hW8, s5_size, hW7, s5_size]; exact Nat.le_refl _, fun g h1 h2 => ?_⟩
    rw [hW8, s5_far _ _ _ _ _ _ (by omega), hW7, s5_far _ _ _ _ _ _ (by omega)]
  have kw8 : Kb 0 w W8 := by
    have kk := kw4.trans k46
    refine ⟨k68.os.trans kk.os, k68.output.trans kk.output, Nat.le_trans kk.size k68.size, fun g h1 h2 => ?_⟩
    rw [hW8, s5_far _ _ _ _ _ _ (by omega), hW7, s5_far _ _ _ _ _ _ (by omega)]
    exact kk.block g h1 h2
  have hr5 := (((r5.mono (Nat.zero_le _)).keep k6 : RowT 0 w6 _ N FA))
  have hr5b : RowT (w.heap.size + 1 + 1) w6 (.slice p5 N q5) N FA := r5.keep ⟨k6.os, k6.output, k6.size, fun g _ h => k6.block g (Nat.zero_le _) h⟩
  have hrA : RowT 0 W8 (.slice p5 N q5) N FA := (hr5b.keep k68).mono (Nat.zero_le _)
  have hrB : RowT 0 W8 (.slice p6 M q6) M FB := (r6.keep k68).mono (Nat.zero_le _)
  obtain ⟨hl1, hl2, hl3⟩ := (show (N ≤ 1048576 ∧ M ≤ 1048576) ∧ (∀ i, i < N → (FA i).c ≤ 1048576) ∧ ∀ i, i < M → (FB i).c ≤ 1048576 from HLL)
  have HEF := im_eqf W8 hrA hrB hl1.1 hl1.2 hl2 hl3
  have HEND : Hid (Calls Try.prog 48 #[.slice p5 N q5, .slice p6 M q6, .func (.func 49) #[] #[]] W8 fun e w' => e = .returned (.bool (dc (Nse N M FA FB))) ∧ Kb 0 W8 w') := HEF
  have HK8 : Hid (Kb 0 w W8) := kw8
  have x0 : w6.cell? ⟨w.heap.size, 0, none⟩ = some (.int .i64 a.k) := cell_of d0 rfl
  have x1 : w6.cell? ⟨w.heap.size, 1, none⟩ = some (.int .i64 a.m) := cell_of d0 rfl
  have x2 : w6.cell? ⟨w.heap.size, 2, none⟩ = some (.string a.x) := cell_of d0 rfl
  have x3 : w6.cell? ⟨w.heap.size, 3, none⟩ = some (.int .i64 a.r) := cell_of d0 rfl
  have x4 : w6.cell? ⟨w.heap.size, 4, none⟩ = some (.slice pa n ca) := cell_of d0 rfl
  have xz : ∀ j, w6.frozen? ⟨w.heap.size, j, none⟩ = false := fun j => frozen_of d0
  have y0 : W7.cell? ⟨w.heap.size + 1, 0, none⟩ = some (.int .i64 b.k) := cell_of g1 rfl
  have y1 : W7.cell? ⟨w.heap.size + 1, 1, none⟩ = some (.int .i64 b.m) := cell_of g1 rfl
  have y2 : W7.cell? ⟨w.heap.size + 1, 2, none⟩ = some (.string b.x) := cell_of g1 rfl
  have y3 : W7.cell? ⟨w.heap.size + 1, 3, none⟩ = some (.int .i64 b.r) := cell_of g1 rfl
  have y4 : W7.cell? ⟨w.heap.size + 1, 4, none⟩ = some (.slice pb n' cb) := cell_of g1 rfl
  have yz : ∀ j, W7.frozen? ⟨w.heap.size + 1, j, none⟩ = false := fun j => frozen_of g1
  have hS6 : (fun W' : World => (W'.cell? ⟨w.heap.size + 1, 0, none⟩ = some (.int .i64 b.k) ∧ W'.cell? ⟨w.heap.size + 1, 1, none⟩ = some (.int .i64 b.m) ∧ W'.cell? ⟨w.heap.size + 1, 2, none⟩ = some (.string b.x) ∧ W'.cell? ⟨w.heap.size + 1, 3, none⟩ = some (.int .i64 b.r) ∧ W'.cell? ⟨w.heap.size + 1, 4, none⟩ = some (.slice pb n' cb))) w6 := ⟨cell_of d1 rfl, cell_of d1 rfl, cell_of d1 rfl, cell_of d1 rfl, cell_of d1 rfl⟩
  have hS7 : (fun W' : World => (W'.cell? ⟨w.heap.size + 1, 0, none⟩ = some (.int .i64 b.k) ∧ W'.cell? ⟨w.heap.size + 1, 1, none⟩ = some (.int .i64 b.m) ∧ W'.cell? ⟨w.heap.size + 1, 2, none⟩ = some (.string b.x) ∧ W'.cell? ⟨w.heap.size + 1, 3, none⟩ = some (.int .i64 b.r) ∧ W'.cell? ⟨w.heap.size + 1, 4, none⟩ = some (.slice pb n' cb))) W7 := ⟨y0, y1, y2, y3, y4⟩
  have p0 : W8.cell? ⟨w.heap.size, 0, none⟩ = some (.int .i64 A.k) := cell_of f0 rfl
  have p1 : W8.cell? ⟨w.heap.size, 1, none⟩ = some (.int .i64 A.m) := cell_of f0 rfl
  have p2 : W8.cell? ⟨w.heap.size, 2, none⟩ = some (.string A.x) := cell_of f0 rfl
  have p3 : W8.cell? ⟨w.heap.size, 3, none⟩ = some (.int .i64 A.r) := cell_of f0 rfl
  have p4 : W8.cell? ⟨w.heap.size, 4, none⟩ = some (.slice p5 N q5) := cell_of f0 rfl
  have q0 : W8.cell? ⟨w.heap.size + 1, 0, none⟩ = some (.int .i64 B.k) := cell_of f1 rfl
  have q1 : W8.cell? ⟨w.heap.size + 1, 1, none⟩ = some (.int .i64 B.m) := cell_of f1 rfl
  have q2 : W8.cell? ⟨w.heap.size + 1, 2, none⟩ = some (.string B.x) := cell_of f1 rfl
  have q3 : W8.cell? ⟨w.heap.size + 1, 3, none⟩ = some (.int .i64 B.r) := cell_of f1 rfl
  have q4 : W8.cell? ⟨w.heap.size + 1, 4, none⟩ = some (.slice p6 M q6) := cell_of f1 rfl
  unfold s5 s4 at hW7 hW8
  have HW7 : Hid (W7 = _) := hW7
  have HW8 : Hid (W8 = _) := hW8
  clear HFB hS5 H5 r5 k5 r6 k6 c0 c1 kw4 z4 k46 z6 d0 d1 hW7 hW8 g0 g1 f0 f1 k68 kw8 hr5 hr5b hrA hrB hl1 hl2 hl3 HEF HCC HLL
  refine hK.out _ _ (fun _ => hS6) ?_
  clear hK K hS6
  try simp only [Act.put, List.setIfInBounds_toArray, List.set_cons_zero, List.set_cons_succ]
  refine AnyL.oneAt 4 rfl (by kernel_rfl) rfl ?_
  intro K hK
  go_simp
  rw [← (show W7 = _ from HW7)]
  clear HW7 x0 x1 x2 x3 x4 xz
  refine hK.out _ _ (fun _ => hS7) ?_
  clear hK K hS7
  try simp only [Act.put, List.setIfInBounds_toArray, List.set_cons_zero, List.set_cons_succ]
  refine AnyL.oneAt 5 rfl (by kernel_rfl) rfl ?_
  intro K hK
  go_simp
  rw [← (show W8 = _ from HW8)]
  clear HW8 y0 y1 y2 y3 y4 yz
  refine hK.out _ _ (fun h => absurd rfl h) ?_
  clear hK K
  try simp only [Act.put, List.setIfInBounds_toArray, List.set_cons_zero, List.set_cons_succ]
  refine AnyL.done (by kernel_rfl) ?_
  by_cases hk : A.k = B.k
  case neg =>
    obtain rfl : R = false := (show R = _ from HRR).trans (dc_f (fun q => hk (by rw [q.1])))
    clear HRR HEND
    go_wp2_with fail
    go_ret
    exact ⟨rfl, HK8⟩
  by_cases hm : A.m = B.m
  case neg =>
    obtain rfl : R = false := (show R = _ from HRR).trans (dc_f (fun q => hm (by rw [q.1])))
    clear HRR HEND
    go_wp2_with fail
    go_ret
    exact ⟨rfl, HK8⟩
  by_cases hx : A.x.toList = B.x.toList
  case neg =>
    obtain rfl : R = false := (show R = _ from HRR).trans (dc_f (fun q => hx (by rw [q.1])))
    clear HRR HEND
    go_wp2_with fail
    go_ret
    exact ⟨rfl, HK8⟩
  by_cases hr : A.r = B.r
  case neg =>
    obtain rfl : R = false := (show R = _ from HRR).trans (dc_f (fun q => hr (by rw [q.1])))
    clear HRR HEND
    go_wp2_with fail
    go_ret
    exact ⟨rfl, HK8⟩
  obtain rfl : A = B := gv_ext hk hm hx hr
  clear hk hm hx hr
  have HE : Hid (R = dc (Nse N M FA FB)) := (by
    rw [show R = _ from HRR]
    by_cases q : Nse N M FA FB
    · rw [dc_t q]; exact dc_t ⟨rfl, q⟩
    · rw [dc_f q]; exact dc_f (fun z => q z.2) : R = _)
  clear HRR
  go_wp2_with fail
  refine (show Calls Try.prog 48 _ W8 _ from HEND).mono ?_
  rintro e w9 ⟨rfl, k9⟩
  rw [← (show R = _ from HE)]
  have HK9 : Hid (Kb 0 w w9) := (show Kb 0 w W8 from HK8).trans k9
  clear HEND HK8 HE k9 p0 p1 p2 p3 p4 q0 q1 q2 q3 q4
  go_wp2_with fail
  go_ret
  exact ⟨rfl, HK9⟩
end Go.Proofs.Ytdgainfmidoemaa.Fo
