import Derived.Test.YtbbjbojjglhgmaaGpd
namespace Go.Proofs.Ytbbjbojjglhgmaa.Fo
open Go.ChangeShapes Go.WideShapes Go.ChangeAt Go.RowKit
set_option linter.unusedVariables false
set_option maxRecDepth 100000
set_option maxHeartbeats 8000000 in
theorem sp_pval_0 {B : Nat} {vo : Value} {l : List Int} {m r : Int} {x : ByteArray} (w : World) (h : w.ownsRow B 5 1 vo l.length (bvs l)) (hB : B ≤ w.heap.size) (hl : l.length ≤ 900000000)  :
    Calls Try.prog 124 #[vo, .agg #[.int .i64 0, .int .i64 m, .string x, .int .i64 r]] w fun e w' => ∃ v', e = .returned v' ∧ w'.ownsRow B 5 1 v' (l ++ [0]).length (bvs (l ++ [0])) ∧ Kx B w w' := by
  obtain ⟨i0, hi0, hz0, hz1, hz2⟩ := info_parts infoB
  have HI0 : Hid (Try.prog.info? 5 = some i0) := hi0
  obtain ⟨ad, cap, rfl⟩ := own_shape h
  obtain ⟨w1, hw1⟩ : ∃ w1, w1 = w.alloc (.cells #[.int .i64 0, .int .i64 m, .string x, .int .i64 r] 24) := ⟨_, rfl⟩
  have k1 : Kb 0 w w1 := by rw [hw1]; exact kb_alloc _ _ _
  have b1 : w1.heap[w.heap.size]? = some (.cells #[.int .i64 0, .int .i64 m, .string x, .int .i64 r] 24 (0, 0)) := by rw [hw1]; exact alloc_new _ _ _
  have h1 : w1.ownsRow B 5 1 (.slice ad l.length cap) l.length (bvs l) := own_keep h (fun g e => k1.block g (Nat.zero_le _) (h.lt g e).2)
  have u0 : w1.cell? ⟨w.heap.size, 0, none⟩ = some (.int .i64 0) := cell_of b1 rfl
  obtain ⟨L, hL⟩ : ∃ L, L = l.length := ⟨_, rfl⟩
  obtain ⟨LV, hLV⟩ : ∃ LV, LV = bvs l := ⟨_, rfl⟩
  have hL1 : L ≤ 900000000 := by omega
  rw [← hL, ← hLV] at h1
  have howna : ∀ ob : Obj, (w1.alloc ob).ownsRow B 5 1 (.slice ad L cap) L LV := fun ob => h1.alloc ob
  have hqc : ∀ (j : Nat) (u : Value), ([.int .u8 0] : List Value)[j]? = some u → (w1.alloc (.cells #[.int .u8 0] 5)).cell? ((⟨w1.heap.size, 0, none⟩ : Addr).add j) = some u := qr_cells w1 #[.int .u8 0] 5 [.int .u8 0] rfl
  have h1c : ∀ u ∈ ([.int .u8 0] : List Value), u.oneCell' = true := by intro u hu; simp at hu; subst hu; rfl
  have hbs : B ≤ w1.heap.size := Nat.le_trans hB k1.size
  have HST : Hid (∀ (ob : Obj) (v' : Value) (w5 : World), w5.ownsRow B 5 1 v' (L + 1) (LV ++ [.int .u8 0]) → (w1.alloc ob).grownBy w5 (Value.slice ad L cap).ownBlock → w5.ownsRow B 5 1 v' (l ++ [0]).length (bvs (l ++ [0])) ∧ Kx B w w5 ∧ w5.heap[w.heap.size]? = some (.cells #[.int .i64 0, .int .i64 m, .string x, .int .i64 r] 24 (0, 0)) ∧ B ≤ w5.heap.size) := (fun ob v' w5 h5 g5 => by
    have kx : Kx B w1 w5 := (Kx.of_kb (kb_alloc 0 w1 ob)).trans (Kx.grown (howna ob) g5)
    refine ⟨?_, (Kx.of_kb k1).trans kx, (kx.nt _ _ _ b1 (by decide)).trans b1, Nat.le_trans hbs kx.size⟩
    have e1 : (l ++ [(0 : Int)]).length = L + 1 := by rw [hL, List.length_append]; rfl
    have e2 : bvs (l ++ [(0 : Int)]) = LV ++ [.int .u8 0] := by rw [hLV]; unfold bvs; rw [List.map_append]; rfl
    rw [e1, e2]
    exact h5 : ∀ (ob : Obj) (v' : Value) (w5 : World), _)
  have HW1 : Hid (w1 = _) := hw1
  have HLL : Hid (l.length ≤ 900000000) := hl
  rw [← hL]
  clear h hB hl k1 b1 h1 hw1 hi0 hL hLV
  go_enter Try.func124, Try.ntmps124
  go_upto_region 1 with fail
  rw [← (show w1 = _ from HW1)]
  clear HW1
  go_upto_region 2 with (at_builtin; refine wpList_append_own _ rfl (.tmp 5) (.tmp 9) 22 rfl B 5 i0 (.int .u8 0) 1 1 Try.underlying22 HI0 hz0 hz1 hz2 rfl (by decide) _ _ _ rfl (howna _) ⟨w1.heap.size, 0, none⟩ 1 1 [.int .u8 0] rfl rfl hqc h1c (by unfold maxLen; omega) (by omega) (by simp; omega) ?_; intro v' w5 hown1 hgrow1 _; obtain ⟨p1, p2, p3, p4⟩ := (show ∀ (ob : Obj) (v' : Value) (w5 : World), _ from HST) _ _ _ hown1 hgrow1; clear HST hown1 hgrow1 howna hqc h1c)
  clear u0 hbs
  have u0 : w5.cell? ⟨w.heap.size, 0, none⟩ = some (.int .i64 0) := cell_of p3 rfl
  have HE : Hid (w5.ownsRow B 5 1 v' (l ++ [0]).length (bvs (l ++ [0])) ∧ Kx B w w5) := (⟨p1, p2⟩ : _ ∧ _)
  clear p1 p2 p3 p4 HLL
  go_wp2_with fail
  go_ret
  exact ⟨_, rfl, HE⟩
set_option maxHeartbeats 8000000 in
theorem sp_pval_4 {B : Nat} {vo : Value} {l : List Int} {m r : Int} {x : ByteArray} (w : World) (h : w.ownsRow B 5 1 vo l.length (bvs l)) (hB : B ≤ w.heap.size) (hl : l.length ≤ 900000000) (hr0 : 0 ≤ r) (hr1 : r ≤ 1000000000) :
    Calls Try.prog 124 #[vo, .agg #[.int .i64 4, .int .i64 m, .string x, .int .i64 r]] w fun e w' => ∃ v', e = .returned v' ∧ w'.ownsRow B 5 1 v' (l ++ ([4] ++ numb r.toNat)).length (bvs (l ++ ([4] ++ numb r.toNat))) ∧ Kx B w w' := by
  obtain ⟨i0, hi0, hz0, hz1, hz2⟩ := info_parts infoB
  have HI0 : Hid (Try.prog.info? 5 = some i0) := hi0
  obtain ⟨ad, cap, rfl⟩ := own_shape h
  obtain ⟨w1, hw1⟩ : ∃ w1, w1 = w.alloc (.cells #[.int .i64 4, .int .i64 m, .string x, .int .i64 r] 24) := ⟨_, rfl⟩
  have k1 : Kb 0 w w1 := by rw [hw1]; exact kb_alloc _ _ _
  have b1 : w1.heap[w.heap.size]? = some (.cells #[.int .i64 4, .int .i64 m, .string x, .int .i64 r] 24 (0, 0)) := by rw [hw1]; exact alloc_new _ _ _
  have h1 : w1.ownsRow B 5 1 (.slice ad l.length cap) l.length (bvs l) := own_keep h (fun g e => k1.block g (Nat.zero_le _) (h.lt g e).2)
  have u0 : w1.cell? ⟨w.heap.size, 0, none⟩ = some (.int .i64 4) := cell_of b1 rfl
  obtain ⟨L, hL⟩ : ∃ L, L = l.length := ⟨_, rfl⟩
  obtain ⟨LV, hLV⟩ : ∃ LV, LV = bvs l := ⟨_, rfl⟩
  have hL1 : L ≤ 900000000 := by omega
  rw [← hL, ← hLV] at h1
  have howna : ∀ ob : Obj, (w1.alloc ob).ownsRow B 5 1 (.slice ad L cap) L LV := fun ob => h1.alloc ob
  have hqc : ∀ (j : Nat) (u : Value), ([.int .u8 4] : List Value)[j]? = some u → (w1.alloc (.cells #[.int .u8 4] 5)).cell? ((⟨w1.heap.size, 0, none⟩ : Addr).add j) = some u := qr_cells w1 #[.int .u8 4] 5 [.int .u8 4] rfl
  have h1c : ∀ u ∈ ([.int .u8 4] : List Value), u.oneCell' = true := by intro u hu; simp at hu; subst hu; rfl
  have hbs : B ≤ w1.heap.size := Nat.le_trans hB k1.size
  have HST : Hid (∀ (ob : Obj) (v' : Value) (w5 : World), w5.ownsRow B 5 1 v' (L + 1) (LV ++ [.int .u8 4]) → (w1.alloc ob).grownBy w5 (Value.slice ad L cap).ownBlock → w5.ownsRow B 5 1 v' (l ++ [4]).length (bvs (l ++ [4])) ∧ Kx B w w5 ∧ w5.heap[w.heap.size]? = some (.cells #[.int .i64 4, .int .i64 m, .string x, .int .i64 r] 24 (0, 0)) ∧ B ≤ w5.heap.size) := (fun ob v' w5 h5 g5 => by
    have kx : Kx B w1 w5 := (Kx.of_kb (kb_alloc 0 w1 ob)).trans (Kx.grown (howna ob) g5)
    refine ⟨?_, (Kx.of_kb k1).trans kx, (kx.nt _ _ _ b1 (by decide)).trans b1, Nat.le_trans hbs kx.size⟩
    have e1 : (l ++ [(4 : Int)]).length = L + 1 := by rw [hL, List.length_append]; rfl
    have e2 : bvs (l ++ [(4 : Int)]) = LV ++ [.int .u8 4] := by rw [hLV]; unfold bvs; rw [List.map_append]; rfl
    rw [e1, e2]
    exact h5 : ∀ (ob : Obj) (v' : Value) (w5 : World), _)
  have HW1 : Hid (w1 = _) := hw1
  have HLL : Hid (l.length ≤ 900000000) := hl
  rw [← hL]
  clear h hB hl k1 b1 h1 hw1 hi0 hL hLV
  go_enter Try.func124, Try.ntmps124
  go_upto_region 1 with fail
  rw [← (show w1 = _ from HW1)]
  clear HW1
  go_upto_region 2 with (at_builtin; refine wpList_append_own _ rfl (.tmp 5) (.tmp 9) 22 rfl B 5 i0 (.int .u8 0) 1 1 Try.underlying22 HI0 hz0 hz1 hz2 rfl (by decide) _ _ _ rfl (howna _) ⟨w1.heap.size, 0, none⟩ 1 1 [.int .u8 4] rfl rfl hqc h1c (by unfold maxLen; omega) (by omega) (by simp; omega) ?_; intro v' w5 hown1 hgrow1 _; obtain ⟨p1, p2, p3, p4⟩ := (show ∀ (ob : Obj) (v' : Value) (w5 : World), _ from HST) _ _ _ hown1 hgrow1; clear HST hown1 hgrow1 howna hqc h1c)
  clear u0 hbs
  have u0 : w5.cell? ⟨w.heap.size, 0, none⟩ = some (.int .i64 4) := cell_of p3 rfl
  have u3 : w5.cell? ⟨w.heap.size, 3, none⟩ = some (.int .i64 r) := cell_of p3 rfl
  have HN := sp_num r.toNat w5 p1 p4 (by rw [List.length_append]; have := (show l.length ≤ 900000000 from HLL); show l.length + 1 ≤ _; omega) (by omega)
  rw [List.append_assoc, Int.toNat_of_nonneg hr0] at HN
  have HP2 : Hid (Kx B w w5) := p2
  clear p1 p2 p3 p4 HLL
  go_wp2_with fail
  refine HN.mono ?_
  rintro e w6 ⟨v6, rfl, r6, k6⟩
  have HE : Hid (w6.ownsRow B 5 1 v6 (l ++ ([4] ++ numb r.toNat)).length (bvs (l ++ ([4] ++ numb r.toNat))) ∧ Kx B w w6) := (⟨r6, (show Kx B w w5 from HP2).trans k6⟩ : _ ∧ _)
  clear HN r6 k6 u0 HP2
  go_wp2_with fail
  go_ret
  exact ⟨_, rfl, HE⟩
set_option maxHeartbeats 8000000 in
theorem sp_pval_1 {B : Nat} {vo : Value} {l : List Int} {m r : Int} {x : ByteArray} (w : World) (h : w.ownsRow B 5 1 vo l.length (bvs l)) (hB : B ≤ w.heap.size) (hl : l.length ≤ 900000000) (hm0 : -9223372036854775808 ≤ m) (hm1 : m ≤ 9223372036854775807) :
    Calls Try.prog 124 #[vo, .agg #[.int .i64 1, .int .i64 m, .string x, .int .i64 r]] w fun e w' => ∃ v', e = .returned v' ∧ w'.ownsRow B 5 1 v' (l ++ ([1] ++ numb (sgn m))).length (bvs (l ++ ([1] ++ numb (sgn m)))) ∧ Kx B w w' := by
  obtain ⟨i0, hi0, hz0, hz1, hz2⟩ := info_parts infoB
  have HI0 : Hid (Try.prog.info? 5 = some i0) := hi0
  obtain ⟨ad, cap, rfl⟩ := own_shape h
  obtain ⟨w1, hw1⟩ : ∃ w1, w1 = w.alloc (.cells #[.int .i64 1, .int .i64 m, .string x, .int .i64 r] 24) := ⟨_, rfl⟩
  have k1 : Kb 0 w w1 := by rw [hw1]; exact kb_alloc _ _ _
  have b1 : w1.heap[w.heap.size]? = some (.cells #[.int .i64 1, .int .i64 m, .string x, .int .i64 r] 24 (0, 0)) := by rw [hw1]; exact alloc_new _ _ _
  have h1 : w1.ownsRow B 5 1 (.slice ad l.length cap) l.length (bvs l) := own_keep h (fun g e => k1.block g (Nat.zero_le _) (h.lt g e).2)
  have u0 : w1.cell? ⟨w.heap.size, 0, none⟩ = some (.int .i64 1) := cell_of b1 rfl
  obtain ⟨L, hL⟩ : ∃ L, L = l.length := ⟨_, rfl⟩
  obtain ⟨LV, hLV⟩ : ∃ LV, LV = bvs l := ⟨_, rfl⟩
  have hL1 : L ≤ 900000000 := by omega
  rw [← hL, ← hLV] at h1
  have howna : ∀ ob : Obj, (w1.alloc ob).ownsRow B 5 1 (.slice ad L cap) L LV := fun ob => h1.alloc ob
  have hqc : ∀ (j : Nat) (u : Value), ([.int .u8 1] : List Value)[j]? = some u → (w1.alloc (.cells #[.int .u8 1] 5)).cell? ((⟨w1.heap.size, 0, none⟩ : Addr).add j) = some u := qr_cells w1 #[.int .u8 1] 5 [.int .u8 1] rfl
  have h1c : ∀ u ∈ ([.int .u8 1] : List Value), u.oneCell' = true := by intro u hu; simp at hu; subst hu; rfl
  have hbs : B ≤ w1.heap.size := Nat.le_trans hB k1.size
  have HST : Hid (∀ (ob : Obj) (v' : Value) (w5 : World), w5.ownsRow B 5 1 v' (L + 1) (LV ++ [.int .u8 1]) → (w1.alloc ob).grownBy w5 (Value.slice ad L cap).ownBlock → w5.ownsRow B 5 1 v' (l ++ [1]).length (bvs (l ++ [1])) ∧ Kx B w w5 ∧ w5.heap[w.heap.size]? = some (.cells #[.int .i64 1, .int .i64 m, .string x, .int .i64 r] 24 (0, 0)) ∧ B ≤ w5.heap.size) := (fun ob v' w5 h5 g5 => by
    have kx : Kx B w1 w5 := (Kx.of_kb (kb_alloc 0 w1 ob)).trans (Kx.grown (howna ob) g5)
    refine ⟨?_, (Kx.of_kb k1).trans kx, (kx.nt _ _ _ b1 (by decide)).trans b1, Nat.le_trans hbs kx.size⟩
    have e1 : (l ++ [(1 : Int)]).length = L + 1 := by rw [hL, List.length_append]; rfl
    have e2 : bvs (l ++ [(1 : Int)]) = LV ++ [.int .u8 1] := by rw [hLV]; unfold bvs; rw [List.map_append]; rfl
    rw [e1, e2]
    exact h5 : ∀ (ob : Obj) (v' : Value) (w5 : World), _)
  have HW1 : Hid (w1 = _) := hw1
  have HLL : Hid (l.length ≤ 900000000) := hl
  rw [← hL]
  clear h hB hl k1 b1 h1 hw1 hi0 hL hLV
  go_enter Try.func124, Try.ntmps124
  go_upto_region 1 with fail
  rw [← (show w1 = _ from HW1)]
  clear HW1
  go_upto_region 2 with (at_builtin; refine wpList_append_own _ rfl (.tmp 5) (.tmp 9) 22 rfl B 5 i0 (.int .u8 0) 1 1 Try.underlying22 HI0 hz0 hz1 hz2 rfl (by decide) _ _ _ rfl (howna _) ⟨w1.heap.size, 0, none⟩ 1 1 [.int .u8 1] rfl rfl hqc h1c (by unfold maxLen; omega) (by omega) (by simp; omega) ?_; intro v' w5 hown1 hgrow1 _; obtain ⟨p1, p2, p3, p4⟩ := (show ∀ (ob : Obj) (v' : Value) (w5 : World), _ from HST) _ _ _ hown1 hgrow1; clear HST hown1 hgrow1 howna hqc h1c)
  clear u0 hbs
  have u0 : w5.cell? ⟨w.heap.size, 0, none⟩ = some (.int .i64 1) := cell_of p3 rfl
  have u1 : w5.cell? ⟨w.heap.size, 1, none⟩ = some (.int .i64 m) := cell_of p3 rfl
  have HG := sp_signed m hm0 hm1 w5
  have HN := sp_num (sgn m) w5 p1 p4 (by rw [List.length_append]; have := (show l.length ≤ 900000000 from HLL); show l.length + 1 ≤ _; omega) (sgn_lt hm0 hm1)
  rw [List.append_assoc] at HN
  have HP2 : Hid (Kx B w w5) := p2
  clear p1 p2 p3 p4 HLL
  go_wp2_with fail
  refine HG.mono ?_
  rintro e w5' ⟨rfl, rfl⟩
  clear HG
  go_wp2_with fail
  refine HN.mono ?_
  rintro e w6 ⟨v6, rfl, r6, k6⟩
  have HE : Hid (w6.ownsRow B 5 1 v6 (l ++ ([1] ++ numb (sgn m))).length (bvs (l ++ ([1] ++ numb (sgn m)))) ∧ Kx B w w6) := (⟨r6, (show Kx B w _ from HP2).trans k6⟩ : _ ∧ _)
  clear HN r6 k6 u0 u1 HP2
  go_wp2_with fail
  go_ret
  exact ⟨_, rfl, HE⟩
end Go.Proofs.Ytbbjbojjglhgmaa.Fo
