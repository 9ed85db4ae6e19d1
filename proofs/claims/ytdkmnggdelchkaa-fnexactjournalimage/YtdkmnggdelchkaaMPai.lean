import Derived.Test.YtdkmnggdelchkaaMPah
namespace Go.Proofs.Ytdkmnggdelchkaa.Fo
open Go.ChangeShapes Go.WideShapes Go.ChangeAt Go.RowKit
set_option linter.unusedVariables false
set_option maxRecDepth 100000
theorem pfl_len {n : Nat} {F : Nat → Td} {a : Gv} (hG : Gok n F a) (hr : Rg n F a) : (pfl n F a).length ≤ 800000000 := by
  have hgb := gb_of hG hr
  have h1 := gb_head hgb
  have h2 := gb_nodes hgb _ (Nat.le_refl _)
  unfold pfl pbd gbl
  rw [List.length_append, eig_len, ← List.append_assoc, List.length_append]
  omega
set_option maxHeartbeats 16000000 in
theorem sp_pack {a : Gv} {vn : Value} {n : Nat} {F : Nat → Td} (w : World) (ha : RowT 0 w vn n F) (hb : Bg n F a) (hrg : Rg n F a) :
    Calls Try.prog 23 #[grv a vn] w fun e w' => ∃ v, e = .returned v ∧ w'.ownsRow w.heap.size 5 1 v (pck n F a).length (bvs (pck n F a)) ∧ Kb 0 w w' := by
  obtain ⟨pn, cn, rfl, ha2⟩ := id ha
  clear ha2
  obtain ⟨w2, hw2⟩ : ∃ w2, w2 = w.alloc (.cells #[.int .i64 a.k, .int .i64 a.m, .string a.x, .int .i64 a.r, .slice pn n cn] 53) := ⟨_, rfl⟩
  have k2 : Kb 0 w w2 := by rw [hw2]; exact kb_alloc _ _ _
  have z2 : w2.heap.size = w.heap.size + 1 := by rw [hw2]; simp
  have b0 : w2.heap[w.heap.size]? = some (.cells #[.int .i64 a.k, .int .i64 a.m, .string a.x, .int .i64 a.r, .slice pn n cn] 53 (0, 0)) := by rw [hw2]; exact alloc_new _ _ _
  have HW2 : Hid (w2 = w.alloc (.cells #[.int .i64 a.k, .int .i64 a.m, .string a.x, .int .i64 a.r, .slice pn n cn] 53)) := hw2
  have v0 : w2.cell? ⟨w.heap.size, 0, none⟩ = some (.int .i64 a.k) := cell_of b0 rfl
  have v1 : w2.cell? ⟨w.heap.size, 1, none⟩ = some (.int .i64 a.m) := cell_of b0 rfl
  have v2 : w2.cell? ⟨w.heap.size, 2, none⟩ = some (.string a.x) := cell_of b0 rfl
  have v3 : w2.cell? ⟨w.heap.size, 3, none⟩ = some (.int .i64 a.r) := cell_of b0 rfl
  have v4 : w2.cell? ⟨w.heap.size, 4, none⟩ = some (.slice pn n cn) := cell_of b0 rfl
  have hg2 := sp_gok w2 (ha.keep k2) hb
  have HGK : Hid (Calls Try.prog 43 #[.agg #[.int .i64 a.k, .int .i64 a.m, .string a.x, .int .i64 a.r, .slice pn n cn]] w2 fun e w' => e = .returned (.bool (dc (Gok n F a))) ∧ Kb 0 w2 w') := hg2
  have HB : Hid (Kb 0 w w2 ∧ w2.heap.size = w.heap.size + 1 ∧ w2.heap[w.heap.size]? = some (.cells #[.int .i64 a.k, .int .i64 a.m, .string a.x, .int .i64 a.r, .slice pn n cn] 53 (0, 0)) ∧ RowT 0 w (.slice pn n cn) n F ∧ Bg n F a ∧ Rg n F a) := (⟨k2, z2, b0, ha, hb, hrg⟩ : _ ∧ _)
  obtain ⟨P, hP⟩ : ∃ P, P = pck n F a := ⟨_, rfl⟩
  rw [← hP]
  have HPP : Hid (P = pck n F a) := hP
  clear k2 z2 b0 hw2 ha hb hg2 hrg hP
  unfold grv
  go_enter Try.func23, Try.ntmps23
  go_upto_region 1 with fail
  rw [← (show w2 = _ from HW2)]
  clear HW2
  go_wp2_with fail
  refine (show Calls Try.prog 43 _ w2 _ from HGK).mono ?_
  rintro e w3 ⟨rfl, k3⟩
  clear HGK v0 v1 v2 v3 v4
  obtain ⟨k2, z2, b0, ha, hb, hrg⟩ := (show Kb 0 w w2 ∧ w2.heap.size = w.heap.size + 1 ∧ w2.heap[w.heap.size]? = some (.cells #[.int .i64 a.k, .int .i64 a.m, .string a.x, .int .i64 a.r, .slice pn n cn] 53 (0, 0)) ∧ RowT 0 w (.slice pn n cn) n F ∧ Bg n F a ∧ Rg n F a from HB)
  have kw3 := k2.trans k3
  by_cases hG : Gok n F a
  case neg =>
    rw [dc_f hG]
    obtain rfl : P = [] := (show P = _ from HPP).trans (by unfold pck; rw [dc_f (fun q => hG q.1)]; rfl)
    have HK : Hid (Kb 0 w w3) := kw3
    clear HB HPP hG k2 z2 b0 ha hb hrg k3 kw3
    go_wp2_with fail
    go_ret
    exact ⟨_, rfl, World.ownsRow_nil _ _ _ _, HK⟩
  rw [dc_t hG]
  have g3 := (k3.block w.heap.size (Nat.zero_le _) (by omega)).trans b0
  have v0 : w3.cell? ⟨w.heap.size, 0, none⟩ = some (.int .i64 a.k) := cell_of g3 rfl
  have v1 : w3.cell? ⟨w.heap.size, 1, none⟩ = some (.int .i64 a.m) := cell_of g3 rfl
  have v2 : w3.cell? ⟨w.heap.size, 2, none⟩ = some (.string a.x) := cell_of g3 rfl
  have v3 : w3.cell? ⟨w.heap.size, 3, none⟩ = some (.int .i64 a.r) := cell_of g3 rfl
  have v4 : w3.cell? ⟨w.heap.size, 4, none⟩ = some (.slice pn n cn) := cell_of g3 rfl
  have hlen := pfl_len hG hrg
  have hpk := sp_pack0 w3 (ha.keep kw3) hb hG hrg
  obtain ⟨Q, hQ⟩ : ∃ Q, Q = pfl n F a := ⟨_, rfl⟩
  rw [← hQ] at hpk hlen
  have hPQ : P = if Q.length ≤ 8192 then Q else [] := by
    rw [show P = _ from HPP]
    unfold pck
    rw [← hQ]
    by_cases q : Q.length ≤ 8192
    · rw [dc_t ⟨hG, q⟩, if_pos rfl, if_pos q]
    · rw [dc_f (fun z => q z.2), if_neg q]; rfl
  have HC : Hid (Calls Try.prog 44 #[.agg #[.int .i64 a.k, .int .i64 a.m, .string a.x, .int .i64 a.r, .slice pn n cn]] w3 fun e w' => ∃ v, e = .returned v ∧ w'.ownsRow w3.heap.size 5 1 v Q.length (bvs Q) ∧ Kb 0 w3 w') := hpk
  have HK3 : Hid (Kb 0 w w3 ∧ P = if Q.length ≤ 8192 then Q else []) := (⟨kw3, hPQ⟩ : _ ∧ _)
  have hQI : (Q.length : Int) ≤ 800000000 := by omega
  clear HB HPP hG k2 z2 b0 ha hb hrg k3 kw3 g3 hlen hpk hQ hPQ
  go_wp2_with fail
  refine (show Calls Try.prog 44 _ w3 _ from HC).mono ?_
  rintro e w4 ⟨v, rfl, h1, k4⟩
  clear HC v0 v1 v2 v3 v4
  obtain ⟨kw3, hPQ⟩ := (show Kb 0 w w3 ∧ P = if Q.length ≤ 8192 then Q else [] from HK3)
  obtain ⟨p, c, rfl⟩ := own_shape h1
  obtain ⟨N, hN⟩ : ∃ N, N = Q.length := ⟨_, rfl⟩
  rw [← hN] at hQI
  by_cases q : Q.length ≤ 8192
  · rw [if_pos q] at hPQ
    have HN : Hid (w4.ownsRow w.heap.size 5 1 (.slice p Q.length c) P.length (bvs P) ∧ Kb 0 w w4) := (⟨by rw [hPQ]; exact own_base h1 kw3.size, kw3.trans k4⟩ : _ ∧ _)
    rw [← hN] at HN q ⊢
    have hqI : ¬ (8192 : Int) < (N : Int) := by omega
    clear h1 k4 kw3 hPQ HK3 hN q
    go_wp2_with fail
    go_ret
    exact ⟨_, rfl, HN⟩
  · rw [if_neg q] at hPQ
    obtain rfl := hPQ
    have HN : Hid (Kb 0 w w4) := kw3.trans k4
    rw [← hN] at q ⊢
    have hqI : (8192 : Int) < (N : Int) := by omega
    clear h1 k4 kw3 HK3 hN q
    go_wp2_with fail
    go_ret
    exact ⟨_, rfl, World.ownsRow_nil _ _ _ _, HN⟩
end Go.Proofs.Ytdkmnggdelchkaa.Fo
