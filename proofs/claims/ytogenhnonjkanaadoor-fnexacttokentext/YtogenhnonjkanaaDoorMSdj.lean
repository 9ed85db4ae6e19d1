import Derived.Test.YtogenhnonjkanaaDoorMSdf
namespace Go.Proofs.YtogenhnonjkanaaDoor
open Go.ChangeShapes Go.WideShapes Go.ChangeAt Go.RowKit
set_option linter.unusedVariables false
/-- the model's reading: its answer's block, its token's -/
structure Tr (w : World) (k f t n : Int) (x : ByteArray) (W : World) : Prop where
  bel : Below w.heap.size w W
  rz : Rz w.heap.size W
  tb : W.heap[w.heap.size + 1]? = some (.cells #[.int .i64 k, .int .i64 f, .int .i64 t, .int .i64 0, .int .i64 n, .string x] 33 (0, 0))
section
variable {w W : World} {k f t n : Int} {x : ByteArray}
theorem Tr.start (w : World) (k f t n : Int) (x : ByteArray) : Tr w k f t n x ((w.alloc (.cells #[.int .i64 0, .int .i64 0, .int .i64 0, .int .i64 0, .int .i64 0, .string ⟨#[]⟩] 33)).alloc (.cells #[.int .i64 k, .int .i64 f, .int .i64 t, .int .i64 0, .int .i64 n, .string x] 33)) := by
  refine ⟨((Below.refl _ w).alloc (Nat.le_refl _) _).alloc (by simp) _, ?_, ?_⟩
  · unfold Rz; rw [Below.heap_alloc _ _ _ (by simp)]; exact Rz.new w
  · show ((w.heap.push _).push _)[w.heap.size + 1]? = _
    rw [Array.getElem?_push, if_pos (by simp)]
theorem Tr.size (h : Tr w k f t n x W) : w.heap.size + 1 < W.heap.size := (Array.getElem?_eq_some_iff.1 h.tb).1
theorem Tr.c0 (h : Tr w k f t n x W) : W.cell? ⟨w.heap.size + 1, 0, none⟩ = some (.int .i64 k) := by simp [World.cell?, h.tb]
theorem Tr.c1 (h : Tr w k f t n x W) : W.cell? ⟨w.heap.size + 1, 1, none⟩ = some (.int .i64 f) := by simp [World.cell?, h.tb]
theorem Tr.c2 (h : Tr w k f t n x W) : W.cell? ⟨w.heap.size + 1, 2, none⟩ = some (.int .i64 t) := by simp [World.cell?, h.tb]
theorem Tr.c3 (h : Tr w k f t n x W) : W.cell? ⟨w.heap.size + 1, 3, none⟩ = some (.int .i64 0) := by simp [World.cell?, h.tb]
theorem Tr.c4 (h : Tr w k f t n x W) : W.cell? ⟨w.heap.size + 1, 4, none⟩ = some (.int .i64 n) := by simp [World.cell?, h.tb]
theorem Tr.c5 (h : Tr w k f t n x W) : W.cell? ⟨w.heap.size + 1, 5, none⟩ = some (.string x) := by simp [World.cell?, h.tb]
theorem Tr.fz (h : Tr w k f t n x W) (j : Nat) : W.frozen? ⟨w.heap.size + 1, j, none⟩ = false := by simp [World.frozen?, h.tb]
theorem Tr.setx (h : Tr w k f t n x W) (j : Nat) (v : Value) : Below w.heap.size w (W.setCell ⟨w.heap.size + 1, j, none⟩ v) ∧ Rz w.heap.size (W.setCell ⟨w.heap.size + 1, j, none⟩ v) :=
  ⟨h.bel.setCell (Nat.le_succ _) _, by unfold Rz; rw [Below.heap_setCell _ _ _ _ (show w.heap.size ≠ w.heap.size + 1 by omega)]; exact h.rz⟩
theorem Tr.set0 (h : Tr w k f t n x W) (y : Int) : Tr w y f t n x (W.setCell ⟨w.heap.size + 1, 0, none⟩ (.int .i64 y)) := ⟨(h.setx _ _).1, (h.setx _ _).2, by simp [World.setCell, Array.getElem?_modify, h.tb]⟩
theorem Tr.set2 (h : Tr w k f t n x W) (y : Int) : Tr w k f y n x (W.setCell ⟨w.heap.size + 1, 2, none⟩ (.int .i64 y)) := ⟨(h.setx _ _).1, (h.setx _ _).2, by simp [World.setCell, Array.getElem?_modify, h.tb]⟩
theorem Tr.below {W' : World} (h : Tr w k f t n x W) (hb : Below W.heap.size W W') : Tr w k f t n x W' := by
  have hs := h.size
  refine ⟨h.bel.trans (hb.mono (by omega)), ?_, ?_⟩
  · unfold Rz; rw [hb.block _ (by omega)]; exact h.rz
  · rw [hb.block _ hs]; exact h.tb
end
set_option maxRecDepth 100000 in
set_option maxHeartbeats 4000000 in
theorem read_word (T : ByteArray) (L : List UInt8) (hT : T.data.toList = L) (hlen : L.length ≤ 65536) (p : Nat) (hp : p < L.length) (h10 : lk L p ≠ 10) (hL : isL (lk L p) = true) {kd : Int} {tn : Nat} {nu : Int} {tx : ByteArray} (hsub : ∀ W, Calls Tryd.prog 32 #[.string T, tokV 0 p 0 0 0 ⟨#[]⟩] W (NumP W kd p tn nu tx)) (w : World) :
    Calls Tryd.prog 15 #[.string T, .int .i64 (p : Int)] w (NumP w kd p tn nu tx) := by
  have hs : T.size = L.length := by rw [← hT]; simp
  obtain ⟨M, hM, hLM⟩ : ∃ M : Int, M ≤ 65536 ∧ (L.length : Int) ≤ M := ⟨L.length, by omega, Int.le_refl _⟩
  have hpM : (p : Int) < M := by omega
  have hix := ix T L hT p _ (lk_at hp)
  obtain ⟨W, hWe, hts⟩ : ∃ W, W = (w.alloc (.cells #[.int .i64 0, .int .i64 0, .int .i64 0, .int .i64 0, .int .i64 0, .string ⟨#[]⟩] 33)).alloc (.cells #[.int .i64 0, .int .i64 p, .int .i64 0, .int .i64 0, .int .i64 0, .string ⟨#[]⟩] 33) ∧ Tr w 0 p 0 0 ⟨#[]⟩ W := ⟨_, rfl, Tr.start w 0 p 0 0 ⟨#[]⟩⟩
  have HTS : Hid (Tr w 0 p 0 0 ⟨#[]⟩ W) := hts
  have n10 : (((lk L p).toNat : Int) == 10) = false := by simp; intro g; exact h10 (UInt8.toNat_inj.1 (show (lk L p).toNat = 10 by omega))
  have hlet := spec_isL (lk L p)
  rw [hL] at hlet
  generalize ((lk L p).toNat : Int) = xp at *
  have hhx := hsub W
  unfold tokV at hhx
  clear hT hlen hts hsub
  go_enter Tryd.func15, Tryd.ntmps15
  go_upto_region 3 with fail
  rw [← hWe]
  clear hWe
  go_wp2_with fail
  refine (hlet _).mono ?_
  rintro e w1 ⟨rfl, hw1⟩
  rw [hw1]
  clear hlet hw1
  go_upto_region 8 with fail
  rename_i Kr hKr
  have HKR : Hid (∀ (a : Act) (w1 : World), bodyPost Tryd.prog Tryd.f15 (NumP w kd p tn nu tx) Exit.ret a w1 → Kr a w1) := (fun a w1 h => hKr a w1 (wp_ret h) : ∀ (a : Act) (w1 : World), bodyPost Tryd.prog Tryd.f15 (NumP w kd p tn nu tx) Exit.ret a w1 → Kr a w1)
  go_light
  have hc0 := HTS.c0
  have hc1 := HTS.c1
  have hc2 := HTS.c2
  have hc3 := HTS.c3
  have hc4 := HTS.c4
  have hc5 := HTS.c5
  go_wp2_with fail
  refine hhx.mono ?_
  rintro e w2 ⟨hb2, hy, hz⟩
  have hT2 := (show Tr w 0 p 0 0 ⟨#[]⟩ W from HTS).below hb2
  have z3 := hT2.rz
  have g0 := z3.c0
  have g1 := z3.c1
  have g2 := z3.c2
  have g3 := z3.c3
  have g4 := z3.c4
  have g5 := z3.c5
  have v0 := z3.f0
  have v1 := z3.f1
  have v2 := z3.f2
  have v3 := z3.f3
  have v4 := z3.f4
  have v5 := z3.f5
  have e0 := st6_c0 z3
  have e1 := st6_c1 z3
  have e2 := st6_c2 z3
  have e3 := st6_c3 z3
  have e4 := st6_c4 z3
  have e5 := st6_c5 z3
  have HBL : Hid (Below w.heap.size w w2) := hT2.bel
  clear hhx hT2 z3 hc0 hc1 hc2 hc3 hc4 hc5 HTS hb2
  by_cases hk0 : kd = 0
  · obtain ⟨a, b, c, d, m, t, he⟩ := hz hk0
    subst he
    have HK0 : Hid (kd = 0) := hk0
    clear hy hz hk0
    unfold tokV
    go_wp2_with fail
    refine (show ∀ (a : Act) (w1 : World), bodyPost Tryd.prog Tryd.f15 (NumP w kd p tn nu tx) Exit.ret a w1 → Kr a w1 from HKR) _ _ (bodyPost_ret (by simp [results, Tryd.results15, go_sem, e0, e1, e2, e3, e4, e5]; rfl) rfl ?_)
    refine ⟨st6_bel HBL (Nat.le_refl _) _ _ _ _ _ _, fun g => (g HK0).elim, fun _ => ⟨_, _, _, _, _, _, rfl⟩⟩
  · have he := hy hk0
    subst he
    have HK0 : Hid (kd ≠ 0) := hk0
    clear hy hz hk0
    unfold tokV
    go_wp2_with fail
    refine (show ∀ (a : Act) (w1 : World), bodyPost Tryd.prog Tryd.f15 (NumP w kd p tn nu tx) Exit.ret a w1 → Kr a w1 from HKR) _ _ (bodyPost_ret (by simp [results, Tryd.results15, go_sem, e0, e1, e2, e3, e4, e5]; rfl) rfl ?_)
    refine ⟨st6_bel HBL (Nat.le_refl _) _ _ _ _ _ _, fun _ => rfl, fun g => (HK0 g).elim⟩
set_option maxRecDepth 100000 in
set_option maxHeartbeats 4000000 in
theorem readn (T : ByteArray) (L : List UInt8) (hT : T.data.toList = L) (hlen : L.length ≤ 65536) (p : Nat) (hp : p < L.length) (h10 : lk L p ≠ 10) (hL : isL (lk L p) = false) (hD : isD (lk L p) = true) {kd : Int} {tn : Nat} {nu : Int} {tx : ByteArray} (hsub : ∀ W, Calls Tryd.prog 34 #[.string T, tokV 0 p 0 0 0 ⟨#[]⟩] W (NumP W kd p tn nu tx)) (w : World) :
    Calls Tryd.prog 15 #[.string T, .int .i64 (p : Int)] w (NumP w kd p tn nu tx) := by
  have hs : T.size = L.length := by rw [← hT]; simp
  obtain ⟨M, hM, hLM⟩ : ∃ M : Int, M ≤ 65536 ∧ (L.length : Int) ≤ M := ⟨L.length, by omega, Int.le_refl _⟩
  have hpM : (p : Int) < M := by omega
  have hix := ix T L hT p _ (lk_at hp)
  obtain ⟨W, hWe, hts⟩ : ∃ W, W = (w.alloc (.cells #[.int .i64 0, .int .i64 0, .int .i64 0, .int .i64 0, .int .i64 0, .string ⟨#[]⟩] 33)).alloc (.cells #[.int .i64 0, .int .i64 p, .int .i64 0, .int .i64 0, .int .i64 0, .string ⟨#[]⟩] 33) ∧ Tr w 0 p 0 0 ⟨#[]⟩ W := ⟨_, rfl, Tr.start w 0 p 0 0 ⟨#[]⟩⟩
  have HTS : Hid (Tr w 0 p 0 0 ⟨#[]⟩ W) := hts
  have n10 : (((lk L p).toNat : Int) == 10) = false := by simp; intro g; exact h10 (UInt8.toNat_inj.1 (show (lk L p).toNat = 10 by omega))
  have hlet := spec_isL (lk L p)
  rw [hL] at hlet
  have hdig := spec_isD (lk L p)
  rw [hD] at hdig
  generalize ((lk L p).toNat : Int) = xp at *
  have hhx := hsub W
  unfold tokV at hhx
  clear hT hlen hts hsub
  go_enter Tryd.func15, Tryd.ntmps15
  go_upto_region 3 with fail
  rw [← hWe]
  clear hWe
  go_wp2_with fail
  refine (hlet _).mono ?_
  rintro e w1 ⟨rfl, hw1⟩
  rw [hw1]
  clear hlet hw1
  go_wp2_with fail
  refine (hdig _).mono ?_
  rintro e w1 ⟨rfl, hw1⟩
  rw [hw1]
  clear hdig hw1
  go_upto_region 10 with fail
  rename_i Kr hKr
  have HKR : Hid (∀ (a : Act) (w1 : World), bodyPost Tryd.prog Tryd.f15 (NumP w kd p tn nu tx) Exit.ret a w1 → Kr a w1) := (fun a w1 h => hKr a w1 (wp_ret h) : ∀ (a : Act) (w1 : World), bodyPost Tryd.prog Tryd.f15 (NumP w kd p tn nu tx) Exit.ret a w1 → Kr a w1)
  go_light
  have hc0 := HTS.c0
  have hc1 := HTS.c1
  have hc2 := HTS.c2
  have hc3 := HTS.c3
  have hc4 := HTS.c4
  have hc5 := HTS.c5
  go_wp2_with fail
  refine hhx.mono ?_
  rintro e w2 ⟨hb2, hy, hz⟩
  have hT2 := (show Tr w 0 p 0 0 ⟨#[]⟩ W from HTS).below hb2
  have z3 := hT2.rz
  have g0 := z3.c0
  have g1 := z3.c1
  have g2 := z3.c2
  have g3 := z3.c3
  have g4 := z3.c4
  have g5 := z3.c5
  have v0 := z3.f0
  have v1 := z3.f1
  have v2 := z3.f2
  have v3 := z3.f3
  have v4 := z3.f4
  have v5 := z3.f5
  have e0 := st6_c0 z3
  have e1 := st6_c1 z3
  have e2 := st6_c2 z3
  have e3 := st6_c3 z3
  have e4 := st6_c4 z3
  have e5 := st6_c5 z3
  have HBL : Hid (Below w.heap.size w w2) := hT2.bel
  clear hhx hT2 z3 hc0 hc1 hc2 hc3 hc4 hc5 HTS hb2
  by_cases hk0 : kd = 0
  · obtain ⟨a, b, c, d, m, t, he⟩ := hz hk0
    subst he
    have HK0 : Hid (kd = 0) := hk0
    clear hy hz hk0
    unfold tokV
    go_wp2_with fail
    refine (show ∀ (a : Act) (w1 : World), bodyPost Tryd.prog Tryd.f15 (NumP w kd p tn nu tx) Exit.ret a w1 → Kr a w1 from HKR) _ _ (bodyPost_ret (by simp [results, Tryd.results15, go_sem, e0, e1, e2, e3, e4, e5]; rfl) rfl ?_)
    refine ⟨st6_bel HBL (Nat.le_refl _) _ _ _ _ _ _, fun g => (g HK0).elim, fun _ => ⟨_, _, _, _, _, _, rfl⟩⟩
  · have he := hy hk0
    subst he
    have HK0 : Hid (kd ≠ 0) := hk0
    clear hy hz hk0
    unfold tokV
    go_wp2_with fail
    refine (show ∀ (a : Act) (w1 : World), bodyPost Tryd.prog Tryd.f15 (NumP w kd p tn nu tx) Exit.ret a w1 → Kr a w1 from HKR) _ _ (bodyPost_ret (by simp [results, Tryd.results15, go_sem, e0, e1, e2, e3, e4, e5]; rfl) rfl ?_)
    refine ⟨st6_bel HBL (Nat.le_refl _) _ _ _ _ _ _, fun _ => rfl, fun g => (HK0 g).elim⟩
set_option maxRecDepth 100000 in
set_option maxHeartbeats 4000000 in
theorem read_str (T : ByteArray) (L : List UInt8) (hT : T.data.toList = L) (hlen : L.length ≤ 65536) (p : Nat) (hp : p < L.length) (hL : isL (lk L p) = false) (hD : isD (lk L p) = false) (h34 : lk L p = 34) {kd : Int} {tn : Nat} {nu : Int} {tx : ByteArray} (hsub : ∀ W, Calls Tryd.prog 35 #[.string T, tokV 0 p 0 0 0 ⟨#[]⟩] W (NumP W kd p tn nu tx)) (w : World) :
    Calls Tryd.prog 15 #[.string T, .int .i64 (p : Int)] w (NumP w kd p tn nu tx) := by
  have hs : T.size = L.length := by rw [← hT]; simp
  obtain ⟨M, hM, hLM⟩ : ∃ M : Int, M ≤ 65536 ∧ (L.length : Int) ≤ M := ⟨L.length, by omega, Int.le_refl _⟩
  have hpM : (p : Int) < M := by omega
  have hix := ix T L hT p _ (lk_at hp)
  obtain ⟨W, hWe, hts⟩ : ∃ W, W = (w.alloc (.cells #[.int .i64 0, .int .i64 0, .int .i64 0, .int .i64 0, .int .i64 0, .string ⟨#[]⟩] 33)).alloc (.cells #[.int .i64 0, .int .i64 p, .int .i64 0, .int .i64 0, .int .i64 0, .string ⟨#[]⟩] 33) ∧ Tr w 0 p 0 0 ⟨#[]⟩ W := ⟨_, rfl, Tr.start w 0 p 0 0 ⟨#[]⟩⟩
  have HTS : Hid (Tr w 0 p 0 0 ⟨#[]⟩ W) := hts
  rw [h34] at hix
  have hlet := spec_isL (lk L p)
  rw [hL, h34] at hlet
  have hdig := spec_isD (lk L p)
  rw [hD, h34] at hdig
  have hhx := hsub W
  unfold tokV at hhx
  clear hT hlen hts hsub
  go_enter Tryd.func15, Tryd.ntmps15
  go_upto_region 3 with fail
  rw [← hWe]
  clear hWe
  go_wp2_with fail
  refine (hlet _).mono ?_
  rintro e w1 ⟨rfl, hw1⟩
  rw [hw1]
  clear hlet hw1
  go_wp2_with fail
  refine (hdig _).mono ?_
  rintro e w1 ⟨rfl, hw1⟩
  rw [hw1]
  clear hdig hw1
  go_upto_region 12 with fail
  rename_i Kr hKr
  have HKR : Hid (∀ (a : Act) (w1 : World), bodyPost Tryd.prog Tryd.f15 (NumP w kd p tn nu tx) Exit.ret a w1 → Kr a w1) := (fun a w1 h => hKr a w1 (wp_ret h) : ∀ (a : Act) (w1 : World), bodyPost Tryd.prog Tryd.f15 (NumP w kd p tn nu tx) Exit.ret a w1 → Kr a w1)
  go_light
  have hc0 := HTS.c0
  have hc1 := HTS.c1
  have hc2 := HTS.c2
  have hc3 := HTS.c3
  have hc4 := HTS.c4
  have hc5 := HTS.c5
  go_wp2_with fail
  refine hhx.mono ?_
  rintro e w2 ⟨hb2, hy, hz⟩
  have hT2 := (show Tr w 0 p 0 0 ⟨#[]⟩ W from HTS).below hb2
  have z3 := hT2.rz
  have g0 := z3.c0
  have g1 := z3.c1
  have g2 := z3.c2
  have g3 := z3.c3
  have g4 := z3.c4
  have g5 := z3.c5
  have v0 := z3.f0
  have v1 := z3.f1
  have v2 := z3.f2
  have v3 := z3.f3
  have v4 := z3.f4
  have v5 := z3.f5
  have e0 := st6_c0 z3
  have e1 := st6_c1 z3
  have e2 := st6_c2 z3
  have e3 := st6_c3 z3
  have e4 := st6_c4 z3
  have e5 := st6_c5 z3
  have HBL : Hid (Below w.heap.size w w2) := hT2.bel
  clear hhx hT2 z3 hc0 hc1 hc2 hc3 hc4 hc5 HTS hb2
  by_cases hk0 : kd = 0
  · obtain ⟨a, b, c, d, m, t, he⟩ := hz hk0
    subst he
    have HK0 : Hid (kd = 0) := hk0
    clear hy hz hk0
    unfold tokV
    go_wp2_with fail
    refine (show ∀ (a : Act) (w1 : World), bodyPost Tryd.prog Tryd.f15 (NumP w kd p tn nu tx) Exit.ret a w1 → Kr a w1 from HKR) _ _ (bodyPost_ret (by simp [results, Tryd.results15, go_sem, e0, e1, e2, e3, e4, e5]; rfl) rfl ?_)
    refine ⟨st6_bel HBL (Nat.le_refl _) _ _ _ _ _ _, fun g => (g HK0).elim, fun _ => ⟨_, _, _, _, _, _, rfl⟩⟩
  · have he := hy hk0
    subst he
    have HK0 : Hid (kd ≠ 0) := hk0
    clear hy hz hk0
    unfold tokV
    go_wp2_with fail
    refine (show ∀ (a : Act) (w1 : World), bodyPost Tryd.prog Tryd.f15 (NumP w kd p tn nu tx) Exit.ret a w1 → Kr a w1 from HKR) _ _ (bodyPost_ret (by simp [results, Tryd.results15, go_sem, e0, e1, e2, e3, e4, e5]; rfl) rfl ?_)
    refine ⟨st6_bel HBL (Nat.le_refl _) _ _ _ _ _ _, fun _ => rfl, fun g => (HK0 g).elim⟩
set_option maxRecDepth 100000 in
set_option maxHeartbeats 4000000 in
theorem read_nl (T : ByteArray) (L : List UInt8) (hT : T.data.toList = L) (hlen : L.length ≤ 65536) (p : Nat) (hp : p < L.length) (h10 : lk L p = 10) {kd : Int} {tn : Nat} {nu : Int} {tx : ByteArray} (hkd : kd = 7 ∧ tn = p + 1 ∧ nu = 0 ∧ tx = ⟨#[]⟩) (w : World) :
    Calls Tryd.prog 15 #[.string T, .int .i64 (p : Int)] w (NumP w kd p tn nu tx) := by
  have hs : T.size = L.length := by rw [← hT]; simp
  obtain ⟨M, hM, hLM⟩ : ∃ M : Int, M ≤ 65536 ∧ (L.length : Int) ≤ M := ⟨L.length, by omega, Int.le_refl _⟩
  have hpM : (p : Int) < M := by omega
  have hix := ix T L hT p _ (lk_at hp)
  obtain ⟨W, hWe, hts⟩ : ∃ W, W = (w.alloc (.cells #[.int .i64 0, .int .i64 0, .int .i64 0, .int .i64 0, .int .i64 0, .string ⟨#[]⟩] 33)).alloc (.cells #[.int .i64 0, .int .i64 p, .int .i64 0, .int .i64 0, .int .i64 0, .string ⟨#[]⟩] 33) ∧ Tr w 0 p 0 0 ⟨#[]⟩ W := ⟨_, rfl, Tr.start w 0 p 0 0 ⟨#[]⟩⟩
  have HTS : Hid (Tr w 0 p 0 0 ⟨#[]⟩ W) := hts
  rw [h10] at hix
  have HK : Hid (kd = 7 ∧ tn = p + 1 ∧ nu = 0 ∧ tx = ⟨#[]⟩) := hkd
  have c0 := hts.c0
  have f0 := hts.fz 0
  have h2 := hts.set0 7
  have c2 := h2.c2
  have f2 := h2.fz 2
  obtain ⟨W6, hW6, HT6⟩ : ∃ W6, W6 = (W.setCell ⟨w.heap.size + 1, 0, none⟩ (.int .i64 7)).setCell ⟨w.heap.size + 1, 2, none⟩ (.int .i64 ((p : Int) + 1)) ∧ Hid (Tr w 7 p ((p : Int) + 1) 0 ⟨#[]⟩ W6) := ⟨_, rfl, h2.set2 _⟩
  clear hT hlen hts h10 hkd h2 HTS
  go_enter Tryd.func15, Tryd.ntmps15
  go_upto_region 3 with fail
  rw [← hWe]
  clear hWe
  go_upto_region 6 with fail
  rename_i Kr hKr
  have HKR : Hid (∀ (a : Act) (w1 : World), bodyPost Tryd.prog Tryd.f15 (NumP w kd p tn nu tx) Exit.ret a w1 → Kr a w1) := (fun a w1 h => hKr a w1 (wp_ret h) : ∀ (a : Act) (w1 : World), bodyPost Tryd.prog Tryd.f15 (NumP w kd p tn nu tx) Exit.ret a w1 → Kr a w1)
  go_light
  rw [← hW6]
  clear hW6 c0 c2 f0 f2
  have h6 := (show Tr w 7 p ((p : Int) + 1) 0 ⟨#[]⟩ W6 from HT6)
  have hc0 := h6.c0
  have hc1 := h6.c1
  have hc2 := h6.c2
  have hc3 := h6.c3
  have hc4 := h6.c4
  have hc5 := h6.c5
  have z3 := h6.rz
  have g0 := z3.c0
  have g1 := z3.c1
  have g2 := z3.c2
  have g3 := z3.c3
  have g4 := z3.c4
  have g5 := z3.c5
  have v0 := z3.f0
  have v1 := z3.f1
  have v2 := z3.f2
  have v3 := z3.f3
  have v4 := z3.f4
  have v5 := z3.f5
  have e0 := st6_c0 z3
  have e1 := st6_c1 z3
  have e2 := st6_c2 z3
  have e3 := st6_c3 z3
  have e4 := st6_c4 z3
  have e5 := st6_c5 z3
  have HBL : Hid (Below w.heap.size w _) := h6.bel
  clear h6 z3
  go_wp2_with fail
  refine (show ∀ (a : Act) (w1 : World), bodyPost Tryd.prog Tryd.f15 (NumP w kd p tn nu tx) Exit.ret a w1 → Kr a w1 from HKR) _ _ (bodyPost_ret (by simp [results, Tryd.results15, go_sem, e0, e1, e2, e3, e4, e5]; rfl) rfl ?_)
  obtain ⟨k1, k2, k3, k4⟩ := (show kd = 7 ∧ tn = p + 1 ∧ nu = 0 ∧ tx = ⟨#[]⟩ from HK)
  subst k1 k2 k3 k4
  exact ⟨st6_bel HBL (Nat.le_refl _) _ _ _ _ _ _, fun _ => rfl, fun g => absurd g (by decide)⟩
theorem sgn_cell (W : World) (i : Nat) (hi : i < 30) : (W.alloc (.cells sgnA 9)).cell? ⟨W.heap.size, i, none⟩ = some (.string (sgnB i)) := by
  have := sgn_get i hi
  simp [this]
theorem sgn_siz (i : Nat) : (sgnB i).size = (sgnL.getD i []).length := by
  rw [← sgn_list i]; simp
theorem sgn_le3 {i : Nat} (hi : i < 30) : (sgnL.getD i []).length ≤ 3 := (sgn_same ⟨i, hi⟩).2.2.2
theorem sgn_pos {i : Nat} (hi : i < 30) : 0 < (sgnL.getD i []).length := (sgn_same ⟨i, hi⟩).2.2.1
set_option maxRecDepth 100000 in
set_option maxHeartbeats 4000000 in
theorem read_sign (T : ByteArray) (L : List UInt8) (hT : T.data.toList = L) (hlen : L.length ≤ 65536) (p : Nat) (hp : p < L.length) (h10 : lk L p ≠ 10) (hL : isL (lk L p) = false) (hD : isD (lk L p) = false) (h34 : lk L p ≠ 34) {m : Nat} (hm : Sm (L.drop p) m) {kd : Int} {tn : Nat} {nu : Int} {tx : ByteArray} (hkd : (m < 30 ∧ kd = ssv (sgnL.getD m []) ∧ tn = p + (sgnL.getD m []).length ∨ ¬ m < 30 ∧ kd = 0 ∧ tn = p) ∧ nu = 0 ∧ tx = ⟨#[]⟩) (w : World) :
    Calls Tryd.prog 15 #[.string T, .int .i64 (p : Int)] w (NumP w kd p tn nu tx) := by
  have hs : T.size = L.length := by rw [← hT]; simp
  obtain ⟨M, hM, hLM⟩ : ∃ M : Int, M ≤ 65536 ∧ (L.length : Int) ≤ M := ⟨L.length, by omega, Int.le_refl _⟩
  have hpM : (p : Int) < M := by omega
  have hix := ix T L hT p _ (lk_at hp)
  obtain ⟨W, hWe, hts⟩ : ∃ W, W = (w.alloc (.cells #[.int .i64 0, .int .i64 0, .int .i64 0, .int .i64 0, .int .i64 0, .string ⟨#[]⟩] 33)).alloc (.cells #[.int .i64 0, .int .i64 p, .int .i64 0, .int .i64 0, .int .i64 0, .string ⟨#[]⟩] 33) ∧ Tr w 0 p 0 0 ⟨#[]⟩ W := ⟨_, rfl, Tr.start w 0 p 0 0 ⟨#[]⟩⟩
  have HTS : Hid (Tr w 0 p 0 0 ⟨#[]⟩ W) := hts
  have n10 : (((lk L p).toNat : Int) == 10) = false := by simp; intro g; exact h10 (UInt8.toNat_inj.1 (show (lk L p).toNat = 10 by omega))
  have n34 : (((lk L p).toNat : Int) == 34) = false := by simp; intro g; exact h34 (UInt8.toNat_inj.1 (show (lk L p).toNat = 34 by omega))
  have hlet := spec_isL (lk L p)
  rw [hL] at hlet
  have hdig := spec_isD (lk L p)
  rw [hD] at hdig
  generalize ((lk L p).toNat : Int) = xp at *
  have HK : Hid ((m < 30 ∧ kd = ssv (sgnL.getD m []) ∧ tn = p + (sgnL.getD m []).length ∨ ¬ m < 30 ∧ kd = 0 ∧ tn = p) ∧ nu = 0 ∧ tx = ⟨#[]⟩) := hkd
  have HSG := spec_signs W
  obtain ⟨W1, hW1, HT1, HC1⟩ : ∃ W1, W1 = W.alloc (.cells sgnA 9) ∧ Hid (Tr w 0 p 0 0 ⟨#[]⟩ W1) ∧ Hid (∀ i, i < 30 → W1.cell? ⟨W.heap.size, i, none⟩ = some (.string (sgnB i))) :=
    ⟨_, rfl, hts.below ((Below.refl _ W).alloc (Nat.le_refl _) _), (fun i hi => sgn_cell W i hi : ∀ i, i < 30 → _)⟩
  have hdrop : ∀ X : ByteArray, p + X.size ≤ L.length → ((T.extract p (p + X.size)).toList == X.toList) = ((L.drop p).take X.size == X.data.toList) := by
    intro X hX
    rw [cmp_list, ext_list, hT, Nat.add_sub_cancel_left]
  obtain ⟨hm30, hneq, hlast⟩ := hm
  have HNQ : Hid (∀ i, i < m → (L.length - p < (sgnB i).size) ∨ (p + (sgnB i).size ≤ L.length ∧ ((T.extract p (p + (sgnB i).size)).toList == (sgnB i).toList) = false)) := (fun i hi => by
    rcases Nat.lt_or_ge (L.length - p) (sgnB i).size with g | g
    · exact .inl g
    · refine .inr ⟨by omega, ?_⟩
      rw [hdrop _ (by omega), sgn_siz, sgn_list]
      exact hneq i hi : ∀ i, i < m → (L.length - p < (sgnB i).size) ∨ (p + (sgnB i).size ≤ L.length ∧ ((T.extract p (p + (sgnB i).size)).toList == (sgnB i).toList) = false))
  have HLA : Hid (m = 30 ∨ (m < 30 ∧ p + (sgnB m).size ≤ L.length ∧ ((T.extract p (p + (sgnB m).size)).toList == (sgnB m).toList) = true)) := by
    show m = 30 ∨ _
    by_cases e : m = 30
    · exact .inl e
    · right
      have h := hlast.resolve_left e
      have hle : (sgnL.getD m []).length ≤ L.length - p := by
        have := congrArg List.length (eq_of_beq h)
        rw [List.length_take, List.length_drop] at this
        omega
      rw [← sgn_siz] at hle
      refine ⟨by omega, by omega, ?_⟩
      rw [hdrop _ (by omega), sgn_siz, sgn_list]
      exact h
  have HTT : Hid (T.size = L.length) := hs
  clear hT hlen hts h10 h34 hkd hneq hlast hdrop HTS hL hD
  go_enter Tryd.func15, Tryd.ntmps15
  go_upto_region 3 with fail
  rw [← hWe]
  clear hWe
  go_wp2_with fail
  refine (hlet _).mono ?_
  rintro e w1 ⟨rfl, hw1⟩
  rw [hw1]
  clear hlet hw1
  go_wp2_with fail
  refine (hdig _).mono ?_
  rintro e w1 ⟨rfl, hw1⟩
  rw [hw1]
  clear hdig hw1
  go_wp2_with fail
  refine HSG.mono ?_
  rintro e w1 ⟨rfl, hw1⟩
  rw [hw1, ← hW1]
  clear HSG hw1 hW1 hix n10 n34
  go_wp2_with fail
  go_loop [45] (fun a => ∃ i : Nat, a = .int .i64 (i : Int) ∧ i ≤ m) (fun a => 30 - (intOf a).toNat)
  case atStart => exact ⟨0, rfl, Nat.zero_le _⟩
  case round =>
    obtain ⟨i, rfl, him⟩ := hrel
    by_cases hi : i < m
    · have hi30 : (i : Int) < 30 := by omega
      have hcell := (show ∀ i, i < 30 → W1.cell? ⟨W.heap.size, i, none⟩ = some (.string (sgnB i)) from HC1) i (by omega)
      rcases (show ∀ i, i < m → _ from HNQ) i hi with g | ⟨g1, g2⟩
      · have hge : ¬ ((sgnB i).size : Int) ≤ (L.length : Int) - (p : Int) := by omega
        clear HNQ HLA HK HT1 HC1 g
        generalize sgnB i = X at *
        go_wp2_with fail
        go_round
        case rel => exact ⟨i + 1, by go_num, by omega⟩
        case measure => simp [intOf]; omega
      · have hge : ((sgnB i).size : Int) ≤ (L.length : Int) - (p : Int) := by omega
        have hsl : ∀ W : World, (Instr.slice 9 (.string T) (some (.int .i64 (p : Int))) (some (.int .i64 ((p : Int) + ((sgnB i).size : Int)))) none).run Tryd.prog W = .ok (.string (T.extract p (p + (sgnB i).size))) W := by
          intro W
          rw [run_slice_string (P := Tryd.prog) W 9 T .i64 .i64 (p : Int) ((p : Int) + ((sgnB i).size : Int)) Tryd.underlying9 (by omega) (by omega) (by omega)]
          have : ((p : Int) + ((sgnB i).size : Int)).toNat = p + (sgnB i).size := by omega
          simp [this]
        have hX3 : ((sgnB i).size : Int) ≤ 3 := by rw [sgn_siz]; have := sgn_le3 (show i < 30 by omega); omega
        clear HNQ HLA HK HT1 HC1 g1
        generalize T.extract p (p + (sgnB i).size) = S at *
        generalize sgnB i = X at *
        go_wp2_with fail
        go_round
        case rel => exact ⟨i + 1, by go_num, by omega⟩
        case measure => simp [intOf]; omega
    · obtain rfl : i = m := by omega
      rcases (show i = 30 ∨ (i < 30 ∧ p + (sgnB i).size ≤ L.length ∧ ((T.extract p (p + (sgnB i).size)).toList == (sgnB i).toList) = true) from HLA) with e30 | ⟨l30, g1, g2⟩
      · subst e30
        have HK2 : Hid (kd = 0 ∧ tn = p) := by
          rcases HK.1 with ⟨k1, _⟩ | ⟨_, k2, k3⟩
          · exact absurd k1 (by decide)
          · exact ⟨k2, k3⟩
        clear HNQ HLA HC1 HK
        go_upto_region 21 with fail
        rename_i Kr hKr
        have HKR : Hid (∀ (a : Act) (w1 : World), bodyPost Tryd.prog Tryd.f15 (NumP w kd p tn nu tx) Exit.ret a w1 → Kr a w1) := (fun a w1 h => hKr a w1 (wp_ret h) : ∀ (a : Act) (w1 : World), bodyPost Tryd.prog Tryd.f15 (NumP w kd p tn nu tx) Exit.ret a w1 → Kr a w1)
        go_light
        have h6 := (show Tr w 0 p 0 0 ⟨#[]⟩ W1 from HT1)
        have hc0 := h6.c0
        have hc1 := h6.c1
        have hc2 := h6.c2
        have hc3 := h6.c3
        have hc4 := h6.c4
        have hc5 := h6.c5
        have z3 := h6.rz
        have g0 := z3.c0
        have g1 := z3.c1
        have g2 := z3.c2
        have g3 := z3.c3
        have g4 := z3.c4
        have g5 := z3.c5
        have v0 := z3.f0
        have v1 := z3.f1
        have v2 := z3.f2
        have v3 := z3.f3
        have v4 := z3.f4
        have v5 := z3.f5
        have e0 := st6_c0 z3
        have e1 := st6_c1 z3
        have e2 := st6_c2 z3
        have e3 := st6_c3 z3
        have e4 := st6_c4 z3
        have e5 := st6_c5 z3
        have HBL : Hid (Below w.heap.size w _) := h6.bel
        clear h6 z3
        go_wp2_with fail
        refine (show ∀ (a : Act) (w1 : World), bodyPost Tryd.prog Tryd.f15 (NumP w kd p tn nu tx) Exit.ret a w1 → Kr a w1 from HKR) _ _ (bodyPost_ret (by simp [results, Tryd.results15, go_sem, e0, e1, e2, e3, e4, e5]; rfl) rfl ?_)
        exact ⟨st6_bel HBL (Nat.le_refl _) _ _ _ _ _ _, fun g => (g HK2.1).elim, fun _ => ⟨_, _, _, _, _, _, by rw [show tn = p from HK2.2]; rfl⟩⟩
      · have hi30 : (i : Int) < 30 := by omega
        have hcell := (show ∀ i, i < 30 → W1.cell? ⟨W.heap.size, i, none⟩ = some (.string (sgnB i)) from HC1) i l30
        have hge : ((sgnB i).size : Int) ≤ (L.length : Int) - (p : Int) := by omega
        have hsl : ∀ W : World, (Instr.slice 9 (.string T) (some (.int .i64 (p : Int))) (some (.int .i64 ((p : Int) + ((sgnB i).size : Int)))) none).run Tryd.prog W = .ok (.string (T.extract p (p + (sgnB i).size))) W := by
          intro W
          rw [run_slice_string (P := Tryd.prog) W 9 T .i64 .i64 (p : Int) ((p : Int) + ((sgnB i).size : Int)) Tryd.underlying9 (by omega) (by omega) (by omega)]
          have : ((p : Int) + ((sgnB i).size : Int)).toNat = p + (sgnB i).size := by omega
          simp [this]
        have hX3 : ((sgnB i).size : Int) ≤ 3 := by rw [sgn_siz]; have := sgn_le3 l30; omega
        have hsr := spec_sign_run (sgnB i) W1
        obtain ⟨sk, hsk⟩ : ∃ sk, ssv (sgnB i).data.toList = sk := ⟨_, rfl⟩
        rw [hsk] at hsr
        have HK2 : Hid (kd = sk ∧ (tn : Int) = (p : Int) + ((sgnB i).size : Int) ∧ kd ≠ 0 ∧ nu = 0 ∧ tx = ⟨#[]⟩) := by
          rcases HK.1 with ⟨_, k2, k3⟩ | ⟨k1, _⟩
          · exact ⟨by rw [← hsk, sgn_list]; exact k2, by rw [sgn_siz]; omega, by rw [k2]; exact (sgn_same ⟨i, l30⟩).2.1, HK.2⟩
          · exact absurd l30 k1
        clear HNQ HLA HC1 HK g1 hsk
        generalize T.extract p (p + (sgnB i).size) = S at *
        generalize sgnB i = X at *
        go_wp2_with fail
        refine hsr.mono ?_
        rintro e w2 ⟨rfl, hb2⟩
        have hT2 := (show Tr w 0 p 0 0 ⟨#[]⟩ W1 from HT1).below hb2
        have c0 := hT2.c0
        have f0 := hT2.fz 0
        have h2 := hT2.set0 sk
        have c2 := h2.c2
        have f2 := h2.fz 2
        obtain ⟨W6, hW6, HT6⟩ : ∃ W6, W6 = (w2.setCell ⟨w.heap.size + 1, 0, none⟩ (.int .i64 sk)).setCell ⟨w.heap.size + 1, 2, none⟩ (.int .i64 ((p : Int) + (X.size : Int))) ∧ Hid (Tr w sk p ((p : Int) + (X.size : Int)) 0 ⟨#[]⟩ W6) := ⟨_, rfl, h2.set2 _⟩
        clear hT2 h2 hsr hb2 HT1 hcell hsl g2
        go_upto_region 19 with fail
        rename_i Kr hKr
        have HKR : Hid (∀ (a : Act) (w1 : World), bodyPost Tryd.prog Tryd.f15 (NumP w kd p tn nu tx) Exit.ret a w1 → Kr a w1) := (fun a w1 h => hKr a w1 (wp_ret h) : ∀ (a : Act) (w1 : World), bodyPost Tryd.prog Tryd.f15 (NumP w kd p tn nu tx) Exit.ret a w1 → Kr a w1)
        go_light
        rw [← hW6]
        clear hW6 c0 c2 f0 f2
        have h6 := (show Tr w sk p ((p : Int) + (X.size : Int)) 0 ⟨#[]⟩ W6 from HT6)
        have hc0 := h6.c0
        have hc1 := h6.c1
        have hc2 := h6.c2
        have hc3 := h6.c3
        have hc4 := h6.c4
        have hc5 := h6.c5
        have z3 := h6.rz
        have g0 := z3.c0
        have g1 := z3.c1
        have g2 := z3.c2
        have g3 := z3.c3
        have g4 := z3.c4
        have g5 := z3.c5
        have v0 := z3.f0
        have v1 := z3.f1
        have v2 := z3.f2
        have v3 := z3.f3
        have v4 := z3.f4
        have v5 := z3.f5
        have e0 := st6_c0 z3
        have e1 := st6_c1 z3
        have e2 := st6_c2 z3
        have e3 := st6_c3 z3
        have e4 := st6_c4 z3
        have e5 := st6_c5 z3
        have HBL : Hid (Below w.heap.size w _) := h6.bel
        clear h6 z3
        go_wp2_with fail
        refine (show ∀ (a : Act) (w1 : World), bodyPost Tryd.prog Tryd.f15 (NumP w kd p tn nu tx) Exit.ret a w1 → Kr a w1 from HKR) _ _ (bodyPost_ret (by simp [results, Tryd.results15, go_sem, e0, e1, e2, e3, e4, e5]; rfl) rfl ?_)
        obtain ⟨k1, k2, k3, k4, k5⟩ := (show kd = sk ∧ (tn : Int) = (p : Int) + (X.size : Int) ∧ kd ≠ 0 ∧ nu = 0 ∧ tx = ⟨#[]⟩ from HK2)
        subst k1 k4 k5
        exact ⟨st6_bel HBL (Nat.le_refl _) _ _ _ _ _ _, fun _ => by rw [k2]; rfl, fun g => absurd g k3⟩
end Go.Proofs.YtogenhnonjkanaaDoor
