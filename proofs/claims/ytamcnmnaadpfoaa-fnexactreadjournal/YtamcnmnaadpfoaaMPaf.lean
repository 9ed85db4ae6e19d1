import Derived.Lib.ConvBytes
import Derived.Test.YtamcnmnaadpfoaaMPac
namespace Go.Proofs.Ytamcnmnaadpfoaa.Fo
open Go.ChangeShapes Go.WideShapes Go.ChangeAt Go.RowKit
set_option linter.unusedVariables false
set_option maxRecDepth 100000
theorem kb_bytes (w : World) (s : ByteArray) : Kb 0 w (Lib.bytesWorld w 5 s) :=
  ⟨rfl, rfl, by rw [Lib.bytesWorld_size]; omega, fun k _ hk => Lib.bytesWorld_at_old w _ s k hk⟩
theorem bts_bok (x : ByteArray) : Bok (bts x) := by
  intro y hy
  obtain ⟨b, _, rfl⟩ := List.mem_map.1 hy
  have := b.toNat_lt
  omega
theorem bts_cells2 (w1 : World) (x : ByteArray) : ∀ j u, (bvs (bts x))[j]? = some u → (Lib.bytesWorld w1 5 x).cell? ((⟨w1.heap.size, 0, none⟩ : Addr).add j) = some u := by
  intro j u hu
  unfold bvs bts at hu
  simp only [List.getElem?_map, Option.map_eq_some_iff] at hu
  obtain ⟨y, ⟨b, hb, rfl⟩, rfl⟩ := hu
  have hj : j < x.size := by
    have := (List.getElem?_eq_some_iff.1 hb).1
    simpa using this
  rw [addr0, Lib.bytesWorld_cell w1 _ x j hj]
  simp [List.getD, hb]
set_option maxHeartbeats 8000000 in
theorem im_pval_0 {B wb : Nat} {W : World} {l : List Int} (m : Int) (x : ByteArray) (r : Int) (hw : WS B wb l W) (hp : Pok ⟨0, m, x, r⟩) (hxs : x.size ≤ 1000000) :
    Calls Try.prog 93 #[.pointer (some ⟨wb, 0, none⟩), .agg #[.int .i64 0, .int .i64 m, .string x, .int .i64 r]] W (WP B wb W (l ++ pvl ⟨0, m, x, r⟩)) := by
  have hlt : wb < W.heap.size := Nat.lt_of_lt_of_le hw.1 hw.2.1
  obtain ⟨hk, m0, m1, hx, hr⟩ := hp
  dsimp only at hk m0 m1 hx hr
  obtain ⟨W1, hW1⟩ : ∃ W1, W1 = W.alloc (.cells #[.int .i64 0, .int .i64 m, .string x, .int .i64 r] 41) := ⟨_, rfl⟩
  have k1 : Kb 0 W W1 := by rw [hW1]; exact kb_alloc _ _ _
  have b1 : W1.heap[W.heap.size]? = some (.cells #[.int .i64 0, .int .i64 m, .string x, .int .i64 r] 41 (0, 0)) := by rw [hW1]; exact alloc_new _ _ _
  have HC := im_put1 (hw.call k1) 0 (by decide) (by decide)
  have c0 : W1.cell? ⟨W.heap.size, 0, none⟩ = some (.int .i64 0) := cell_of b1 rfl
  have HB1 : Hid (W1.heap[W.heap.size]? = some (.cells #[.int .i64 0, .int .i64 m, .string x, .int .i64 r] 41 (0, 0)) ∧ Kb 0 W W1 ∧ W.heap.size ≠ wb) := (⟨b1, k1, by omega⟩ : _ ∧ _)
  have HW1 : Hid (W1 = W.alloc (.cells #[.int .i64 0, .int .i64 m, .string x, .int .i64 r] 41)) := hW1
  have HXB : Hid (x.size ≤ 1000000) := hxs
  clear hw hW1 k1 b1 hlt hk hxs hx
  go_enter Try.func93, Try.ntmps93
  go_upto_region 1 with fail
  rw [← (show W1 = _ from HW1)]
  clear HW1
  go_wp2_with fail
  refine HC.mono ?_
  rintro e w2 ⟨rfl, y1, y2⟩
  clear HC c0
  obtain ⟨b1, k1, hne⟩ := (show W1.heap[W.heap.size]? = some (.cells #[.int .i64 0, .int .i64 m, .string x, .int .i64 r] 41 (0, 0)) ∧ Kb 0 W W1 ∧ W.heap.size ≠ wb from HB1)
  have b2 := y2.cells b1 (by decide) hne
  have y3 : Kw B wb W w2 := (Kw.of_kb k1).trans y2
  have d0 : w2.cell? ⟨W.heap.size, 0, none⟩ = some (.int .i64 0) := cell_of b2 rfl
  have d1 : w2.cell? ⟨W.heap.size, 1, none⟩ = some (.int .i64 m) := cell_of b2 rfl
  have d2 : w2.cell? ⟨W.heap.size, 2, none⟩ = some (.string x) := cell_of b2 rfl
  have d3 : w2.cell? ⟨W.heap.size, 3, none⟩ = some (.int .i64 r) := cell_of b2 rfl
  have HN : Hid (WS B wb (l ++ pvl ⟨0, m, x, r⟩) w2 ∧ Kw B wb W w2) := (⟨y1, y3⟩ : _ ∧ _)
  clear y1 y2 y3 HB1 b1 b2 k1 hne
  go_wp2_with fail
  exact ⟨rfl, .tuple #[], by simp [results, Try.results93], rfl, (show _ ∧ _ from HN).1, (show _ ∧ _ from HN).2⟩
set_option maxHeartbeats 8000000 in
theorem im_pval_1 {B wb : Nat} {W : World} {l : List Int} (m : Int) (x : ByteArray) (r : Int) (hw : WS B wb l W) (hp : Pok ⟨1, m, x, r⟩) (hxs : x.size ≤ 1000000) :
    Calls Try.prog 93 #[.pointer (some ⟨wb, 0, none⟩), .agg #[.int .i64 1, .int .i64 m, .string x, .int .i64 r]] W (WP B wb W (l ++ pvl ⟨1, m, x, r⟩)) := by
  have hlt : wb < W.heap.size := Nat.lt_of_lt_of_le hw.1 hw.2.1
  obtain ⟨hk, m0, m1, hx, hr⟩ := hp
  dsimp only at hk m0 m1 hx hr
  obtain ⟨W1, hW1⟩ : ∃ W1, W1 = W.alloc (.cells #[.int .i64 1, .int .i64 m, .string x, .int .i64 r] 41) := ⟨_, rfl⟩
  have k1 : Kb 0 W W1 := by rw [hW1]; exact kb_alloc _ _ _
  have b1 : W1.heap[W.heap.size]? = some (.cells #[.int .i64 1, .int .i64 m, .string x, .int .i64 r] 41 (0, 0)) := by rw [hW1]; exact alloc_new _ _ _
  have HC := im_put1 (hw.call k1) 1 (by decide) (by decide)
  have c0 : W1.cell? ⟨W.heap.size, 0, none⟩ = some (.int .i64 1) := cell_of b1 rfl
  have HB1 : Hid (W1.heap[W.heap.size]? = some (.cells #[.int .i64 1, .int .i64 m, .string x, .int .i64 r] 41 (0, 0)) ∧ Kb 0 W W1 ∧ W.heap.size ≠ wb) := (⟨b1, k1, by omega⟩ : _ ∧ _)
  have HW1 : Hid (W1 = W.alloc (.cells #[.int .i64 1, .int .i64 m, .string x, .int .i64 r] 41)) := hW1
  have HXB : Hid (x.size ≤ 1000000) := hxs
  clear hw hW1 k1 b1 hlt hk hxs hx
  go_enter Try.func93, Try.ntmps93
  go_upto_region 1 with fail
  rw [← (show W1 = _ from HW1)]
  clear HW1
  go_wp2_with fail
  refine HC.mono ?_
  rintro e w2 ⟨rfl, y1, y2⟩
  clear HC c0
  obtain ⟨b1, k1, hne⟩ := (show W1.heap[W.heap.size]? = some (.cells #[.int .i64 1, .int .i64 m, .string x, .int .i64 r] 41 (0, 0)) ∧ Kb 0 W W1 ∧ W.heap.size ≠ wb from HB1)
  have b2 := y2.cells b1 (by decide) hne
  have y3 : Kw B wb W w2 := (Kw.of_kb k1).trans y2
  have d0 : w2.cell? ⟨W.heap.size, 0, none⟩ = some (.int .i64 1) := cell_of b2 rfl
  have d1 : w2.cell? ⟨W.heap.size, 1, none⟩ = some (.int .i64 m) := cell_of b2 rfl
  have d2 : w2.cell? ⟨W.heap.size, 2, none⟩ = some (.string x) := cell_of b2 rfl
  have d3 : w2.cell? ⟨W.heap.size, 3, none⟩ = some (.int .i64 r) := cell_of b2 rfl
  have HC2 := im_num1 y1 m ⟨m0, m1⟩
  have HE : Hid (l ++ pvl ⟨1, m, x, r⟩ = (l ++ [1]) ++ numb (sgn m)) := (by show l ++ ([1] ++ numb (sgn m)) = _; rw [List.append_assoc] : l ++ pvl ⟨1, m, x, r⟩ = _)
  have HY3 : Hid (Kw B wb W w2) := y3
  clear y1 y2 y3 HB1 b1 b2 k1 hne
  go_wp2_with fail
  refine HC2.mono ?_
  rintro e w3 ⟨rfl, z1, z2⟩
  have HN : Hid (WS B wb (l ++ pvl ⟨1, m, x, r⟩) w3 ∧ Kw B wb W w3) := (⟨by rw [show l ++ pvl ⟨1, m, x, r⟩ = _ from HE]; exact z1, (show Kw B wb W w2 from HY3).trans z2⟩ : _ ∧ _)
  clear HC2 z1 z2 HE HY3 d0 d1 d2 d3
  go_wp2_with fail
  exact ⟨rfl, .tuple #[], by simp [results, Try.results93], rfl, (show _ ∧ _ from HN).1, (show _ ∧ _ from HN).2⟩
set_option maxHeartbeats 8000000 in
theorem im_pval_2 {B wb : Nat} {W : World} {l : List Int} (m : Int) (x : ByteArray) (r : Int) (hw : WS B wb l W) (hp : Pok ⟨2, m, x, r⟩) (hxs : x.size ≤ 1000000) :
    Calls Try.prog 93 #[.pointer (some ⟨wb, 0, none⟩), .agg #[.int .i64 2, .int .i64 m, .string x, .int .i64 r]] W (WP B wb W (l ++ pvl ⟨2, m, x, r⟩)) := by
  have hlt : wb < W.heap.size := Nat.lt_of_lt_of_le hw.1 hw.2.1
  obtain ⟨hk, m0, m1, hx, hr⟩ := hp
  dsimp only at hk m0 m1 hx hr
  obtain ⟨W1, hW1⟩ : ∃ W1, W1 = W.alloc (.cells #[.int .i64 2, .int .i64 m, .string x, .int .i64 r] 41) := ⟨_, rfl⟩
  have k1 : Kb 0 W W1 := by rw [hW1]; exact kb_alloc _ _ _
  have b1 : W1.heap[W.heap.size]? = some (.cells #[.int .i64 2, .int .i64 m, .string x, .int .i64 r] 41 (0, 0)) := by rw [hW1]; exact alloc_new _ _ _
  have HC := im_put1 (hw.call k1) 2 (by decide) (by decide)
  have c0 : W1.cell? ⟨W.heap.size, 0, none⟩ = some (.int .i64 2) := cell_of b1 rfl
  have HB1 : Hid (W1.heap[W.heap.size]? = some (.cells #[.int .i64 2, .int .i64 m, .string x, .int .i64 r] 41 (0, 0)) ∧ Kb 0 W W1 ∧ W.heap.size ≠ wb) := (⟨b1, k1, by omega⟩ : _ ∧ _)
  have HW1 : Hid (W1 = W.alloc (.cells #[.int .i64 2, .int .i64 m, .string x, .int .i64 r] 41)) := hW1
  have HXB : Hid (x.size ≤ 1000000) := hxs
  clear hw hW1 k1 b1 hlt hk hxs hx
  go_enter Try.func93, Try.ntmps93
  go_upto_region 1 with fail
  rw [← (show W1 = _ from HW1)]
  clear HW1
  go_wp2_with fail
  refine HC.mono ?_
  rintro e w2 ⟨rfl, y1, y2⟩
  clear HC c0
  obtain ⟨b1, k1, hne⟩ := (show W1.heap[W.heap.size]? = some (.cells #[.int .i64 2, .int .i64 m, .string x, .int .i64 r] 41 (0, 0)) ∧ Kb 0 W W1 ∧ W.heap.size ≠ wb from HB1)
  have b2 := y2.cells b1 (by decide) hne
  have y3 : Kw B wb W w2 := (Kw.of_kb k1).trans y2
  have d0 : w2.cell? ⟨W.heap.size, 0, none⟩ = some (.int .i64 2) := cell_of b2 rfl
  have d1 : w2.cell? ⟨W.heap.size, 1, none⟩ = some (.int .i64 m) := cell_of b2 rfl
  have d2 : w2.cell? ⟨W.heap.size, 2, none⟩ = some (.string x) := cell_of b2 rfl
  have d3 : w2.cell? ⟨W.heap.size, 3, none⟩ = some (.int .i64 r) := cell_of b2 rfl
  have HC2 := im_eight m m0 m1 y1
  have HE : Hid (l ++ pvl ⟨2, m, x, r⟩ = (l ++ [2]) ++ eig (m % 18446744073709551616).toNat 8) := (by show l ++ ([2] ++ eig (m % 18446744073709551616).toNat 8) = _; rw [List.append_assoc] : l ++ pvl ⟨2, m, x, r⟩ = _)
  have HY3 : Hid (Kw B wb W w2) := y3
  clear y1 y2 y3 HB1 b1 b2 k1 hne
  go_wp2_with fail
  refine HC2.mono ?_
  rintro e w3 ⟨rfl, z1, z2⟩
  have HN : Hid (WS B wb (l ++ pvl ⟨2, m, x, r⟩) w3 ∧ Kw B wb W w3) := (⟨by rw [show l ++ pvl ⟨2, m, x, r⟩ = _ from HE]; exact z1, (show Kw B wb W w2 from HY3).trans z2⟩ : _ ∧ _)
  clear HC2 z1 z2 HE HY3 d0 d1 d2 d3
  go_wp2_with fail
  exact ⟨rfl, .tuple #[], by simp [results, Try.results93], rfl, (show _ ∧ _ from HN).1, (show _ ∧ _ from HN).2⟩
set_option maxHeartbeats 8000000 in
theorem im_pval_4 {B wb : Nat} {W : World} {l : List Int} (m : Int) (x : ByteArray) (r : Int) (hw : WS B wb l W) (hp : Pok ⟨4, m, x, r⟩) (hxs : x.size ≤ 1000000) :
    Calls Try.prog 93 #[.pointer (some ⟨wb, 0, none⟩), .agg #[.int .i64 4, .int .i64 m, .string x, .int .i64 r]] W (WP B wb W (l ++ pvl ⟨4, m, x, r⟩)) := by
  have hlt : wb < W.heap.size := Nat.lt_of_lt_of_le hw.1 hw.2.1
  obtain ⟨hk, m0, m1, hx, hr⟩ := hp
  dsimp only at hk m0 m1 hx hr
  obtain ⟨W1, hW1⟩ : ∃ W1, W1 = W.alloc (.cells #[.int .i64 4, .int .i64 m, .string x, .int .i64 r] 41) := ⟨_, rfl⟩
  have k1 : Kb 0 W W1 := by rw [hW1]; exact kb_alloc _ _ _
  have b1 : W1.heap[W.heap.size]? = some (.cells #[.int .i64 4, .int .i64 m, .string x, .int .i64 r] 41 (0, 0)) := by rw [hW1]; exact alloc_new _ _ _
  have HC := im_put1 (hw.call k1) 4 (by decide) (by decide)
  have c0 : W1.cell? ⟨W.heap.size, 0, none⟩ = some (.int .i64 4) := cell_of b1 rfl
  have HB1 : Hid (W1.heap[W.heap.size]? = some (.cells #[.int .i64 4, .int .i64 m, .string x, .int .i64 r] 41 (0, 0)) ∧ Kb 0 W W1 ∧ W.heap.size ≠ wb) := (⟨b1, k1, by omega⟩ : _ ∧ _)
  have HW1 : Hid (W1 = W.alloc (.cells #[.int .i64 4, .int .i64 m, .string x, .int .i64 r] 41)) := hW1
  have HXB : Hid (x.size ≤ 1000000) := hxs
  clear hw hW1 k1 b1 hlt hk hxs hx
  go_enter Try.func93, Try.ntmps93
  go_upto_region 1 with fail
  rw [← (show W1 = _ from HW1)]
  clear HW1
  go_wp2_with fail
  refine HC.mono ?_
  rintro e w2 ⟨rfl, y1, y2⟩
  clear HC c0
  obtain ⟨b1, k1, hne⟩ := (show W1.heap[W.heap.size]? = some (.cells #[.int .i64 4, .int .i64 m, .string x, .int .i64 r] 41 (0, 0)) ∧ Kb 0 W W1 ∧ W.heap.size ≠ wb from HB1)
  have b2 := y2.cells b1 (by decide) hne
  have y3 : Kw B wb W w2 := (Kw.of_kb k1).trans y2
  have d0 : w2.cell? ⟨W.heap.size, 0, none⟩ = some (.int .i64 4) := cell_of b2 rfl
  have d1 : w2.cell? ⟨W.heap.size, 1, none⟩ = some (.int .i64 m) := cell_of b2 rfl
  have d2 : w2.cell? ⟨W.heap.size, 2, none⟩ = some (.string x) := cell_of b2 rfl
  have d3 : w2.cell? ⟨W.heap.size, 3, none⟩ = some (.int .i64 r) := cell_of b2 rfl
  have hr := hr trivial
  have HC2 := im_groups r.toNat (by omega) y1
  have HE : Hid (l ++ pvl ⟨4, m, x, r⟩ = (l ++ [4]) ++ numb r.toNat) := (by show l ++ ([4] ++ numb r.toNat) = _; rw [List.append_assoc] : l ++ pvl ⟨4, m, x, r⟩ = _)
  have HY3 : Hid (Kw B wb W w2) := y3
  have hrr : IntKind.u64.wrap r = ((r.toNat : Nat) : Int) := by rw [wrap_u64]; omega
  obtain ⟨RR, hRR⟩ : ∃ RR : Int, RR = ((r.toNat : Nat) : Int) := ⟨_, rfl⟩
  rw [← hRR] at HC2 hrr
  clear hRR hr
  clear y1 y2 y3 HB1 b1 b2 k1 hne
  go_wp2_with fail
  refine HC2.mono ?_
  rintro e w3 ⟨rfl, z1, z2⟩
  have HN : Hid (WS B wb (l ++ pvl ⟨4, m, x, r⟩) w3 ∧ Kw B wb W w3) := (⟨by rw [show l ++ pvl ⟨4, m, x, r⟩ = _ from HE]; exact z1, (show Kw B wb W w2 from HY3).trans z2⟩ : _ ∧ _)
  clear HC2 z1 z2 HE HY3 d0 d1 d2 d3
  go_wp2_with fail
  exact ⟨rfl, .tuple #[], by simp [results, Try.results93], rfl, (show _ ∧ _ from HN).1, (show _ ∧ _ from HN).2⟩
set_option maxHeartbeats 8000000 in
theorem im_pval_3 {B wb : Nat} {W : World} {l : List Int} (m : Int) (x : ByteArray) (r : Int) (hw : WS B wb l W) (hp : Pok ⟨3, m, x, r⟩) (hxs : x.size ≤ 1000000) :
    Calls Try.prog 93 #[.pointer (some ⟨wb, 0, none⟩), .agg #[.int .i64 3, .int .i64 m, .string x, .int .i64 r]] W (WP B wb W (l ++ pvl ⟨3, m, x, r⟩)) := by
  have hlt : wb < W.heap.size := Nat.lt_of_lt_of_le hw.1 hw.2.1
  obtain ⟨hk, m0, m1, hx, hr⟩ := hp
  dsimp only at hk m0 m1 hx hr
  obtain ⟨W1, hW1⟩ : ∃ W1, W1 = W.alloc (.cells #[.int .i64 3, .int .i64 m, .string x, .int .i64 r] 41) := ⟨_, rfl⟩
  have k1 : Kb 0 W W1 := by rw [hW1]; exact kb_alloc _ _ _
  have b1 : W1.heap[W.heap.size]? = some (.cells #[.int .i64 3, .int .i64 m, .string x, .int .i64 r] 41 (0, 0)) := by rw [hW1]; exact alloc_new _ _ _
  have HC := im_put1 (hw.call k1) 3 (by decide) (by decide)
  have c0 : W1.cell? ⟨W.heap.size, 0, none⟩ = some (.int .i64 3) := cell_of b1 rfl
  have HB1 : Hid (W1.heap[W.heap.size]? = some (.cells #[.int .i64 3, .int .i64 m, .string x, .int .i64 r] 41 (0, 0)) ∧ Kb 0 W W1 ∧ W.heap.size ≠ wb) := (⟨b1, k1, by omega⟩ : _ ∧ _)
  have HW1 : Hid (W1 = W.alloc (.cells #[.int .i64 3, .int .i64 m, .string x, .int .i64 r] 41)) := hW1
  have HXB : Hid (x.size ≤ 1000000) := hxs
  clear hw hW1 k1 b1 hlt hk hxs hx
  go_enter Try.func93, Try.ntmps93
  go_upto_region 1 with fail
  rw [← (show W1 = _ from HW1)]
  clear HW1
  go_wp2_with fail
  refine HC.mono ?_
  rintro e w2 ⟨rfl, y1, y2⟩
  clear HC c0
  obtain ⟨b1, k1, hne⟩ := (show W1.heap[W.heap.size]? = some (.cells #[.int .i64 3, .int .i64 m, .string x, .int .i64 r] 41 (0, 0)) ∧ Kb 0 W W1 ∧ W.heap.size ≠ wb from HB1)
  have b2 := y2.cells b1 (by decide) hne
  have y3 : Kw B wb W w2 := (Kw.of_kb k1).trans y2
  have d0 : w2.cell? ⟨W.heap.size, 0, none⟩ = some (.int .i64 3) := cell_of b2 rfl
  have d1 : w2.cell? ⟨W.heap.size, 1, none⟩ = some (.int .i64 m) := cell_of b2 rfl
  have d2 : w2.cell? ⟨W.heap.size, 2, none⟩ = some (.string x) := cell_of b2 rfl
  have d3 : w2.cell? ⟨W.heap.size, 3, none⟩ = some (.int .i64 r) := cell_of b2 rfl
  have hxz := (show x.size ≤ 1000000 from HXB)
  have HC2 := im_groups x.size (by omega) y1
  have HE : Hid (l ++ pvl ⟨3, m, x, r⟩ = ((l ++ [3]) ++ numb x.size) ++ bts x) := (by show l ++ ([3] ++ numb x.size ++ bts x) = _; simp only [List.append_assoc] : l ++ pvl ⟨3, m, x, r⟩ = _)
  have HY3 : Hid (Kw B wb W w2) := y3
  have hxx : IntKind.u64.wrap (x.size : Int) = (x.size : Int) := by rw [wrap_u64]; omega
  have HB2 : Hid (w2.heap[W.heap.size]? = some (.cells #[.int .i64 3, .int .i64 m, .string x, .int .i64 r] 41 (0, 0)) ∧ W.heap.size ≠ wb) := (⟨b2, hne⟩ : _ ∧ _)
  clear y1 y2 y3 HB1 b1 b2 k1 hne hxz
  go_wp2_with fail
  refine HC2.mono ?_
  rintro e w3 ⟨rfl, z1, z2⟩
  clear HC2 d0 d1 d2 d3
  obtain ⟨b2, hne⟩ := (show w2.heap[W.heap.size]? = some (.cells #[.int .i64 3, .int .i64 m, .string x, .int .i64 r] 41 (0, 0)) ∧ W.heap.size ≠ wb from HB2)
  have b3 := z2.cells b2 (by decide) hne
  have d2 : w3.cell? ⟨W.heap.size, 2, none⟩ = some (.string x) := cell_of b3 rfl
  have hcv := Lib.run_convert_string_bytes (P := Try.prog) w3 9 22 5 x Try.underlying9 Try.underlying22 Try.underlying5
  have hk := kb_bytes w3 x
  have hxz := (show x.size ≤ 1000000 from HXB)
  have hlt : wb < w3.heap.size := Nat.lt_of_lt_of_le z1.1 z1.2.1
  have HP := fun c => im_put (c := c) (ad := ⟨w3.heap.size, 0, none⟩) (bts x) (z1.call hk) (by show w3.heap.size ≠ _; omega) (bts_cells2 w3 x) (by rw [bts_len]; omega) (bts_bok x)
  rw [bts_len] at HP
  have HO : Hid (Kw B wb W w3 ∧ Kb 0 w3 (Lib.bytesWorld w3 5 x)) := (⟨(show Kw B wb W w2 from HY3).trans z2, hk⟩ : _ ∧ _)
  generalize Lib.bytesWorld w3 5 x = w4 at *
  generalize grownCap w3 x.size 0 5 = cp at *
  clear z1 z2 hk b2 b3 hne HB2 HY3 hxz HXB hxx hlt
  go_wp2_with fail
  refine (HP _).mono ?_
  rintro e w5 ⟨rfl, q1, q2⟩
  obtain ⟨o1, o2⟩ := (show _ ∧ _ from HO)
  have HN : Hid (WS B wb (l ++ pvl ⟨3, m, x, r⟩) w5 ∧ Kw B wb W w5) := (⟨by rw [show l ++ pvl ⟨3, m, x, r⟩ = _ from HE]; exact q1, (o1.trans (Kw.of_kb o2)).trans q2⟩ : _ ∧ _)
  clear HP q1 q2 o1 o2 HO hcv d2 HE
  go_wp2_with fail
  exact ⟨rfl, .tuple #[], by simp [results, Try.results93], rfl, (show _ ∧ _ from HN).1, (show _ ∧ _ from HN).2⟩
theorem im_pval {B wb : Nat} {W : World} {l : List Int} {v : Gv} (hw : WS B wb l W) (hp : Pok v) (hx : v.x.size ≤ 1000000) :
    Calls Try.prog 93 #[.pointer (some ⟨wb, 0, none⟩), .agg #[.int .i64 v.k, .int .i64 v.m, .string v.x, .int .i64 v.r]] W (WP B wb W (l ++ pvl v)) := by
  obtain ⟨k, m, x, r⟩ := v
  have hk := hp.k
  dsimp only at hk
  rcases hk with rfl | rfl | rfl | rfl | rfl
  · exact im_pval_0 m x r hw hp hx
  · exact im_pval_1 m x r hw hp hx
  · exact im_pval_2 m x r hw hp hx
  · exact im_pval_3 m x r hw hp hx
  · exact im_pval_4 m x r hw hp hx
end Go.Proofs.Ytamcnmnaadpfoaa.Fo

namespace Go.Proofs.Ytamcnmnaadpfoaa.Fo
open Go.ChangeShapes Go.WideShapes Go.ChangeAt Go.RowKit
set_option linter.unusedVariables false
set_option maxRecDepth 100000
def cat (f : Nat → List Int) : Nat → List Int
  | 0 => []
  | n + 1 => cat f n ++ f n
theorem cat_pre (f : Nat → List Int) (i : Nat) : ∀ d, ∃ t, cat f (i + d) = cat f i ++ t
  | 0 => ⟨[], (List.append_nil _).symm⟩
  | d + 1 => by
    obtain ⟨t, e⟩ := cat_pre f i d
    exact ⟨t ++ f (i + d), by show cat f (i + d) ++ f (i + d) = _; rw [e, List.append_assoc]⟩
theorem cat_bok (f : Nat → List Int) : ∀ n, (∀ i, i < n → Bok (f i)) → Bok (cat f n)
  | 0, _ => fun x hx => by cases hx
  | n + 1, h => (cat_bok f n (fun i hi => h i (by omega))).app (h n (by omega))
/-- the bytes of a node, of a graph -/
def ndl (f : Td) : List Int := (numb f.t.toNat ++ numb f.c) ++ cat (fun j => pvl (f.C j)) f.c
def gbl (A : Gv) (m : Nat) (F : Nat → Td) : List Int := (numb m ++ pvl A) ++ cat (fun k => ndl (F k)) m
theorem pvl_bok {v : Gv} (hp : Pok v) : Bok (pvl v) := by
  have one : ∀ c : Int, 0 ≤ c → c ≤ 255 → Bok [c] := fun c h0 h1 x hx => by rw [List.mem_singleton] at hx; subst hx; exact ⟨h0, h1⟩
  unfold pvl
  split
  · exact (one 1 (by decide) (by decide)).app (numb_bok _)
  · split
    · exact (one 2 (by decide) (by decide)).app (eig_bok _ _)
    · split
      · exact ((one 3 (by decide) (by decide)).app (numb_bok _)).app (bts_bok _)
      · split
        · exact (one 4 (by decide) (by decide)).app (numb_bok _)
        · exact one 0 (by decide) (by decide)
/-- once it is lost the writer stays so -/
theorem WS.more {B wb : Nat} {W : World} {l t : List Int} {im : Value} {lf : Int} (h : WS B wb l W) (hb : W.heap[wb]? = some (.cells #[im, .int .i64 lf, .bool true] 99 (0, 0))) (ht : Bok t) : WS B wb (l ++ t) W := by
  obtain ⟨h0, hB, hl, im', lf', lo, l1, h2, h3, h4, h5, h6⟩ := h
  refine ⟨h0, hB, hl.app ht, im', lf', lo, l1, h2, h3, h4, h5, .inr ?_⟩
  rcases h6 with ⟨rfl, _, _⟩ | ⟨e, q⟩
  · rw [h2] at hb
    injection hb with hb
    injection hb with hb
    have := congrArg (fun a => a[2]?) hb
    simp at this
  · exact ⟨e, by rw [List.length_append]; omega⟩
/-- a row of values in a block of its own -/
def OV (wb : Nat) (W : World) (v : Value) (c : Nat) (D : Nat → Gv) : Prop := ∃ p cap, v = .slice p c cap ∧ (0 < c → ∃ g cur, p = some ⟨g, 0, none⟩ ∧ c ≤ cap ∧ g ≠ wb ∧ W.heap[g]? = some (.cells cur 41 (0, 0)) ∧ ∀ j, j < c → ∀ t, t < 4 → W.cell? ⟨g, j * 4 + t, none⟩ = (gcl (D j))[t]?)
theorem OV.keep {B wb : Nat} {W W' : World} {v : Value} {c : Nat} {D : Nat → Gv} (h : OV wb W v c D) (k : Kw B wb W W') : OV wb W' v c D := by
  obtain ⟨p, cap, h1, h2⟩ := h
  refine ⟨p, cap, h1, fun hc => ?_⟩
  obtain ⟨g, cur, e1, e2, e3, e4, e5⟩ := h2 hc
  have e6 := k.nt g cur _ e4 (by decide) e3
  exact ⟨g, cur, e1, e2, e3, e6.trans e4, fun j hj t ht => (World.cell?_of_block e6).trans (e5 j hj t ht)⟩
/-- nodes in a block of their own, their values too -/
def OT (wb : Nat) (W : World) (v : Value) (m : Nat) (F : Nat → Td) : Prop := ∃ p cap, v = .slice p m cap ∧ (0 < m → ∃ g cur, p = some ⟨g, 0, none⟩ ∧ m ≤ cap ∧ g ≠ wb ∧ W.heap[g]? = some (.cells cur 50 (0, 0)) ∧ ∀ k, k < m → ∃ vk, W.cell? ⟨g, k * 2, none⟩ = some (.int .i64 (F k).t) ∧ W.cell? ⟨g, k * 2 + 1, none⟩ = some vk ∧ OV wb W vk (F k).c (F k).C)
theorem OT.keep {B wb : Nat} {W W' : World} {v : Value} {c : Nat} {D : Nat → Td} (h : OT wb W v c D) (k : Kw B wb W W') : OT wb W' v c D := by
  obtain ⟨p, cap, h1, h2⟩ := h
  refine ⟨p, cap, h1, fun hc => ?_⟩
  obtain ⟨g, cur, e1, e2, e3, e4, e5⟩ := h2 hc
  have e6 := k.nt g cur _ e4 (by decide) e3
  refine ⟨g, cur, e1, e2, e3, e6.trans e4, fun j hj => ?_⟩
  obtain ⟨vk, q1, q2, q3⟩ := e5 j hj
  exact ⟨vk, (World.cell?_of_block e6).trans q1, (World.cell?_of_block e6).trans q2, q3.keep k⟩
/-- what the lost flag says -/
theorem WS.flag {B wb : Nat} {W : World} {l : List Int} (h : WS B wb l W) : ∃ im lf lo, W.heap[wb]? = some (.cells #[im, .int .i64 lf, .bool lo] 99 (0, 0)) := by
  obtain ⟨_, _, _, im, lf, lo, _, h2, _⟩ := h
  exact ⟨im, lf, lo, h2⟩
set_option maxHeartbeats 8000000 in
theorem im_wval {B wb : Nat} {W : World} {l : List Int} {v : Value} {c : Nat} {D : Nat → Gv} (hw : WS B wb l W) (hr : OV wb W v c D) (hp : ∀ j, j < c → Pok (D j) ∧ (D j).x.size ≤ 1000000) (hc : c ≤ 1048576) :
    Calls Try.prog 110 #[.pointer (some ⟨wb, 0, none⟩), v, .func (.func 93) #[.pointer (some ⟨wb, 0, none⟩)] #[]] W (WP B wb W (l ++ cat (fun j => pvl (D j)) c)) := by
  obtain ⟨f, hf⟩ : ∃ f, f = fun j => pvl (D j) := ⟨_, rfl⟩
  rw [← hf]
  have HBK : Hid (∀ i, i < c → Bok (f i)) := (by rw [hf]; exact fun i hi => pvl_bok (hp i hi).1 : ∀ i, _)
  have HR : Hid (∀ wr, Kw B wb W wr → OV wb wr v c D) := (fun wr k => hr.keep k : ∀ wr, _)
  have HP : Hid ((∀ j, j < c → Pok (D j) ∧ (D j).x.size ≤ 1000000) ∧ f = fun j => pvl (D j)) := (⟨hp, hf⟩ : _ ∧ _)
  have HW : Hid (WS B wb l W) := hw
  have hlt : wb < W.heap.size := Nat.lt_of_lt_of_le hw.1 hw.2.1
  have HLT : Hid (wb < W.heap.size) := hlt
  have hcI : (c : Int) ≤ 1048576 := by omega
  obtain ⟨p, cap, rfl, -⟩ := id hr
  clear hw hr hp hf hlt hc
  go_enter Try.func110, Try.ntmps110
  go_wp2_with fail
  go_loopw [10] (fun s10 wr => ∃ i : Nat, s10 = .int .i64 (i : Int) ∧ i ≤ c ∧ Hid (WS B wb (l ++ cat f i) wr ∧ Kw B wb W wr)) (fun s10 _ => c - (intOf s10).toNat)
  case atStart => exact ⟨0, rfl, Nat.zero_le _, (⟨by rw [show cat f 0 = [] from rfl, List.append_nil]; exact HW, Kw.refl _ _ _⟩ : _ ∧ _)⟩
  case round =>
    clear HW
    obtain ⟨i, rfl, hi0, HX⟩ := hrel
    obtain ⟨hw, hk⟩ := (show WS B wb (l ++ cat f i) wr ∧ Kw B wb W wr from HX)
    rcases Nat.lt_or_ge i c with hi | hi
    case inr =>
      obtain rfl : i = c := by omega
      have hI : ¬ (i : Int) < (i : Int) := by omega
      clear hw hk HBK HR HP HLT hi
      go_wp2_with fail
      exact ⟨rfl, .tuple #[], by simp [results, Try.results110], rfl, (show _ ∧ _ from HX).1, (show _ ∧ _ from HX).2⟩
    have hI : (i : Int) < (c : Int) := by omega
    obtain ⟨p', cap', e0, hcl⟩ := (show ∀ wr, Kw B wb W wr → _ from HR) wr hk
    injection e0 with e0 _ e1
    subst e0
    subst e1
    obtain ⟨g, cur, rfl, hcap, hgw, hgb, hce⟩ := hcl (by omega)
    obtain ⟨hpp, hff⟩ := (show (∀ j, j < c → Pok (D j) ∧ (D j).x.size ≤ 1000000) ∧ f = fun j => pvl (D j) from HP)
    obtain ⟨x, hxd⟩ : ∃ x, x = D i := ⟨_, rfl⟩
    have z0 : wr.cell? ⟨g, i * 4, none⟩ = some (.int .i64 x.k) := by rw [hxd]; exact hce i hi 0 (by omega)
    have z1 : wr.cell? ⟨g, i * 4 + 1, none⟩ = some (.int .i64 x.m) := by rw [hxd]; exact hce i hi 1 (by omega)
    have z2 : wr.cell? ⟨g, i * 4 + 2, none⟩ = some (.string x.x) := by rw [hxd]; exact hce i hi 2 (by omega)
    have z3 : wr.cell? ⟨g, i * 4 + 3, none⟩ = some (.int .i64 x.r) := by rw [hxd]; exact hce i hi 3 (by omega)
    obtain ⟨W1, hW1⟩ : ∃ W1, W1 = wr.alloc (.cells #[.int .i64 x.k, .int .i64 x.m, .string x.x, .int .i64 x.r] 41) := ⟨_, rfl⟩
    have k1 : Kb 0 wr W1 := by rw [hW1]; exact kb_alloc _ _ _
    have b1 : W1.heap[wr.heap.size]? = some (.cells #[.int .i64 x.k, .int .i64 x.m, .string x.x, .int .i64 x.r] 41 (0, 0)) := by rw [hW1]; exact alloc_new _ _ _
    have hw1 := hw.call k1
    obtain ⟨im, lf, lo, hfl⟩ := hw1.flag
    have lc : W1.cell? ⟨wb, 2, none⟩ = some (.bool lo) := cell_of hfl rfl
    have HW1 : Hid (W1 = wr.alloc (.cells #[.int .i64 x.k, .int .i64 x.m, .string x.x, .int .i64 x.r] 41)) := hW1
    have hk1 : Kw B wb W W1 := hk.trans (Kw.of_kb k1)
    cases lo
    case true =>
      have HN : Hid (WS B wb (l ++ cat f c) W1 ∧ Kw B wb W W1) := (by
        obtain ⟨t, et⟩ := cat_pre f i (c - i)
        rw [show i + (c - i) = c by omega] at et
        have hb : Bok t := by
          have h1 := cat_bok f c (show ∀ i, i < c → Bok (f i) from HBK)
          rw [et] at h1
          exact fun x hx => h1 x (List.mem_append.2 (.inr hx))
        rw [et, ← List.append_assoc]
        exact ⟨hw1.more hfl hb, hk1⟩ : _ ∧ _)
      clear HX hw hk HBK HR HP HLT hcl hce hgb hpp hff hW1 k1 b1 hw1 hfl hk1 hxd
      go_upto_region 3 with fail
      rw [← (show W1 = _ from HW1)]
      clear HW1
      go_wp2_with fail
      exact bodyPost_ret (by simp [results, Try.results110]) rfl ⟨rfl, (show _ ∧ _ from HN).1, (show _ ∧ _ from HN).2⟩
    case false =>
      have a0 : W1.cell? ⟨wr.heap.size, 0, none⟩ = some (.int .i64 x.k) := cell_of b1 rfl
      have a1 : W1.cell? ⟨wr.heap.size, 1, none⟩ = some (.int .i64 x.m) := cell_of b1 rfl
      have a2 : W1.cell? ⟨wr.heap.size, 2, none⟩ = some (.string x.x) := cell_of b1 rfl
      have a3 : W1.cell? ⟨wr.heap.size, 3, none⟩ = some (.int .i64 x.r) := cell_of b1 rfl
      have HC := im_pval hw1 (v := x) (by rw [hxd]; exact (hpp i hi).1) (by rw [hxd]; exact (hpp i hi).2)
      have HE : Hid (l ++ cat f (i + 1) = (l ++ cat f i) ++ pvl x) := (by show l ++ (cat f i ++ f i) = _; rw [show f i = pvl x by rw [hff, hxd], List.append_assoc] : l ++ cat f (i + 1) = _)
      have HK1 : Hid (Kw B wb W W1) := hk1
      clear hxd
      clear HX hw hk HBK HR HP HLT hcl hce hgb hpp hff hW1 k1 b1 hw1 hfl hk1
      go_upto_region 3 with fail
      rw [← (show W1 = _ from HW1)]
      clear HW1 z0 z1 z2 z3
      go_wp2_with fail
      refine HC.mono ?_
      rintro e w3 ⟨rfl, y1, y2⟩
      have HN : Hid (WS B wb (l ++ cat f (i + 1)) w3 ∧ Kw B wb W w3) := (⟨by rw [show l ++ cat f (i + 1) = _ from HE]; exact y1, (show Kw B wb W W1 from HK1).trans y2⟩ : _ ∧ _)
      clear HC y1 y2 HE HK1
      go_wp2_with fail
      go_roundw
      case rel => exact ⟨i + 1, by go_num, by omega, HN⟩
      case measure => simp [intOf]; omega
end Go.Proofs.Ytamcnmnaadpfoaa.Fo

namespace Go.Proofs.Ytamcnmnaadpfoaa.Fo
open Go.ChangeShapes Go.WideShapes Go.ChangeAt Go.RowKit
set_option linter.unusedVariables false
set_option maxRecDepth 100000
/-- what is asked of a node that is packed -/
structure Nop (f : Td) : Prop where
  t0 : 0 ≤ f.t
  t1 : f.t ≤ 1000
  c : f.c ≤ 300
  v : ∀ j, j < f.c → Pok (f.C j) ∧ (f.C j).x.size ≤ 1000000
theorem ndl_bok {f : Td} (h : Nop f) : Bok (ndl f) := ((numb_bok _).app (numb_bok _)).app (cat_bok _ _ (fun i hi => pvl_bok (h.v i hi).1))
set_option maxHeartbeats 8000000 in
theorem im_wthing {B wb : Nat} {W : World} {l : List Int} {v : Value} {f : Td} (hw : WS B wb l W) (hr : OV wb W v f.c f.C) (hp : Nop f) :
    Calls Try.prog 95 #[.pointer (some ⟨wb, 0, none⟩), .agg #[.int .i64 f.t, v]] W (WP B wb W (l ++ ndl f)) := by
  have hlt : wb < W.heap.size := Nat.lt_of_lt_of_le hw.1 hw.2.1
  obtain ⟨W1, hW1⟩ : ∃ W1, W1 = W.alloc (.cells #[.int .i64 f.t, v] 50) := ⟨_, rfl⟩
  have k1 : Kb 0 W W1 := by rw [hW1]; exact kb_alloc _ _ _
  have b1 : W1.heap[W.heap.size]? = some (.cells #[.int .i64 f.t, v] 50 (0, 0)) := by rw [hW1]; exact alloc_new _ _ _
  have HC := im_groups f.t.toNat (by have := hp.t1; omega) (hw.call k1)
  have htt : IntKind.u64.wrap f.t = ((f.t.toNat : Nat) : Int) := by rw [wrap_u64]; have := hp.t0; have := hp.t1; omega
  have hcc : IntKind.u64.wrap (f.c : Int) = (f.c : Int) := by rw [wrap_u64]; have := hp.c; omega
  obtain ⟨TT, hTT⟩ : ∃ TT : Int, TT = ((f.t.toNat : Nat) : Int) := ⟨_, rfl⟩
  rw [← hTT] at HC htt
  have c0 : W1.cell? ⟨W.heap.size, 0, none⟩ = some (.int .i64 f.t) := cell_of b1 rfl
  have HB1 : Hid (W1.heap[W.heap.size]? = some (.cells #[.int .i64 f.t, v] 50 (0, 0)) ∧ Kb 0 W W1 ∧ W.heap.size ≠ wb ∧ OV wb W v f.c f.C ∧ Nop f) := (⟨b1, k1, by omega, hr, hp⟩ : _ ∧ _)
  have HW1 : Hid (W1 = W.alloc (.cells #[.int .i64 f.t, v] 50)) := hW1
  have HL : Hid (l ++ ndl f = ((l ++ numb f.t.toNat) ++ numb f.c) ++ cat (fun j => pvl (f.C j)) f.c) := (by unfold ndl; simp only [List.append_assoc] : l ++ ndl f = _)
  obtain ⟨p, cap, rfl, -⟩ := id hr
  clear hw hr hp hW1 k1 b1 hlt hTT
  go_enter Try.func95, Try.ntmps95
  go_upto_region 1 with fail
  rw [← (show W1 = _ from HW1)]
  clear HW1
  go_wp2_with fail
  refine HC.mono ?_
  rintro e w2 ⟨rfl, y1, y2⟩
  clear HC c0 htt
  obtain ⟨b1, k1, hne, hr, hp⟩ := (show W1.heap[W.heap.size]? = some (.cells #[.int .i64 f.t, .slice p f.c cap] 50 (0, 0)) ∧ Kb 0 W W1 ∧ W.heap.size ≠ wb ∧ OV wb W (.slice p f.c cap) f.c f.C ∧ Nop f from HB1)
  have b2 := y2.cells b1 (by decide) hne
  have kw2 : Kw B wb W w2 := (Kw.of_kb k1).trans y2
  have d1 : w2.cell? ⟨W.heap.size, 1, none⟩ = some (.slice p f.c cap) := cell_of b2 rfl
  have HC2 := im_groups f.c (by have := hp.c; omega) y1
  have HB2 : Hid (w2.heap[W.heap.size]? = some (.cells #[.int .i64 f.t, .slice p f.c cap] 50 (0, 0)) ∧ Kw B wb W w2) := (⟨b2, kw2⟩ : _ ∧ _)
  clear y1 y2 b1 b2 k1 hne hr hp kw2
  go_wp2_with fail
  refine HC2.mono ?_
  rintro e w3 ⟨rfl, y1, y2⟩
  clear HC2 d1
  obtain ⟨b1, k1, hne, hr, hp⟩ := (show W1.heap[W.heap.size]? = some (.cells #[.int .i64 f.t, .slice p f.c cap] 50 (0, 0)) ∧ Kb 0 W W1 ∧ W.heap.size ≠ wb ∧ OV wb W (.slice p f.c cap) f.c f.C ∧ Nop f from HB1)
  obtain ⟨b2, kw2⟩ := (show w2.heap[W.heap.size]? = some (.cells #[.int .i64 f.t, .slice p f.c cap] 50 (0, 0)) ∧ Kw B wb W w2 from HB2)
  have b3 := y2.cells b2 (by decide) hne
  have kw3 := kw2.trans y2
  have d1 : w3.cell? ⟨W.heap.size, 1, none⟩ = some (.slice p f.c cap) := cell_of b3 rfl
  have HC3 := im_wval y1 (hr.keep kw3) hp.v (by have := hp.c; omega)
  have HK3 : Hid (Kw B wb W w3) := kw3
  clear y1 y2 b1 b2 b3 k1 hne hr hp kw2 kw3 HB1 HB2
  go_wp2_with fail
  refine HC3.mono ?_
  rintro e w4 ⟨rfl, y1, y2⟩
  have HN : Hid (WS B wb (l ++ ndl f) w4 ∧ Kw B wb W w4) := (⟨by rw [show l ++ ndl f = _ from HL]; exact y1, (show Kw B wb W w3 from HK3).trans y2⟩ : _ ∧ _)
  clear HC3 y1 y2 HL HK3 d1
  go_wp2_with fail
  exact ⟨rfl, .tuple #[], by simp [results, Try.results95], rfl, (show _ ∧ _ from HN).1, (show _ ∧ _ from HN).2⟩
set_option maxHeartbeats 8000000 in
theorem im_wthings {B wb : Nat} {W : World} {l : List Int} {v : Value} {c : Nat} {D : Nat → Td} (hw : WS B wb l W) (hr : OT wb W v c D) (hp : ∀ j, j < c → Nop (D j)) (hc : c ≤ 1048576) :
    Calls Try.prog 94 #[.pointer (some ⟨wb, 0, none⟩), v, .func (.func 95) #[.pointer (some ⟨wb, 0, none⟩)] #[]] W (WP B wb W (l ++ cat (fun j => ndl (D j)) c)) := by
  obtain ⟨f, hf⟩ : ∃ f, f = fun j => ndl (D j) := ⟨_, rfl⟩
  rw [← hf]
  have HBK : Hid (∀ i, i < c → Bok (f i)) := (by rw [hf]; exact fun i hi => ndl_bok (hp i hi) : ∀ i, _)
  have HR : Hid (∀ wr, Kw B wb W wr → OT wb wr v c D) := (fun wr k => hr.keep k : ∀ wr, _)
  have HP : Hid ((∀ j, j < c → Nop (D j)) ∧ f = fun j => ndl (D j)) := (⟨hp, hf⟩ : _ ∧ _)
  have HW : Hid (WS B wb l W) := hw
  have hlt : wb < W.heap.size := Nat.lt_of_lt_of_le hw.1 hw.2.1
  have HLT : Hid (wb < W.heap.size) := hlt
  have hcI : (c : Int) ≤ 1048576 := by omega
  obtain ⟨p, cap, rfl, -⟩ := id hr
  clear hw hr hp hf hlt hc
  go_enter Try.func94, Try.ntmps94
  go_wp2_with fail
  go_loopw [10] (fun s10 wr => ∃ i : Nat, s10 = .int .i64 (i : Int) ∧ i ≤ c ∧ Hid (WS B wb (l ++ cat f i) wr ∧ Kw B wb W wr)) (fun s10 _ => c - (intOf s10).toNat)
  case atStart => exact ⟨0, rfl, Nat.zero_le _, (⟨by rw [show cat f 0 = [] from rfl, List.append_nil]; exact HW, Kw.refl _ _ _⟩ : _ ∧ _)⟩
  case round =>
    clear HW
    obtain ⟨i, rfl, hi0, HX⟩ := hrel
    obtain ⟨hw, hk⟩ := (show WS B wb (l ++ cat f i) wr ∧ Kw B wb W wr from HX)
    rcases Nat.lt_or_ge i c with hi | hi
    case inr =>
      obtain rfl : i = c := by omega
      have hI : ¬ (i : Int) < (i : Int) := by omega
      clear hw hk HBK HR HP HLT hi
      go_wp2_with fail
      exact ⟨rfl, .tuple #[], by simp [results, Try.results94], rfl, (show _ ∧ _ from HX).1, (show _ ∧ _ from HX).2⟩
    have hI : (i : Int) < (c : Int) := by omega
    obtain ⟨p', cap', e0, hcl⟩ := (show ∀ wr, Kw B wb W wr → _ from HR) wr hk
    injection e0 with e0 _ e1
    subst e0
    subst e1
    obtain ⟨g, cur, rfl, hcap, hgw, hgb, hce⟩ := hcl (by omega)
    obtain ⟨hpp, hff⟩ := (show (∀ j, j < c → Nop (D j)) ∧ f = fun j => ndl (D j) from HP)
    obtain ⟨vk, z0, z1, hov⟩ := hce i hi
    obtain ⟨x, hxd⟩ : ∃ x, x = D i := ⟨_, rfl⟩
    rw [← hxd] at z0 hov
    obtain ⟨pk', ck', rfl, -⟩ := id hov
    obtain ⟨W1, hW1⟩ : ∃ W1, W1 = wr.alloc (.cells #[.int .i64 x.t, .slice pk' x.c ck'] 50) := ⟨_, rfl⟩
    have k1 : Kb 0 wr W1 := by rw [hW1]; exact kb_alloc _ _ _
    have b1 : W1.heap[wr.heap.size]? = some (.cells #[.int .i64 x.t, .slice pk' x.c ck'] 50 (0, 0)) := by rw [hW1]; exact alloc_new _ _ _
    have hw1 := hw.call k1
    obtain ⟨im, lf, lo, hfl⟩ := hw1.flag
    have lc : W1.cell? ⟨wb, 2, none⟩ = some (.bool lo) := cell_of hfl rfl
    have HW1 : Hid (W1 = wr.alloc (.cells #[.int .i64 x.t, .slice pk' x.c ck'] 50)) := hW1
    have hk1 : Kw B wb W W1 := hk.trans (Kw.of_kb k1)
    cases lo
    case true =>
      have HN : Hid (WS B wb (l ++ cat f c) W1 ∧ Kw B wb W W1) := (by
        obtain ⟨t, et⟩ := cat_pre f i (c - i)
        rw [show i + (c - i) = c by omega] at et
        have hb : Bok t := by
          have h1 := cat_bok f c (show ∀ i, i < c → Bok (f i) from HBK)
          rw [et] at h1
          exact fun x hx => h1 x (List.mem_append.2 (.inr hx))
        rw [et, ← List.append_assoc]
        exact ⟨hw1.more hfl hb, hk1⟩ : _ ∧ _)
      clear HX hw hk HBK HR HP HLT hcl hce hgb hpp hff hW1 k1 b1 hw1 hfl hk1 hxd hov
      go_upto_region 3 with fail
      rw [← (show W1 = _ from HW1)]
      clear HW1
      go_wp2_with fail
      exact bodyPost_ret (by simp [results, Try.results94]) rfl ⟨rfl, (show _ ∧ _ from HN).1, (show _ ∧ _ from HN).2⟩
    case false =>
      have a0 : W1.cell? ⟨wr.heap.size, 0, none⟩ = some (.int .i64 x.t) := cell_of b1 rfl
      have a1 : W1.cell? ⟨wr.heap.size, 1, none⟩ = some (.slice pk' x.c ck') := cell_of b1 rfl
      have HC := im_wthing (f := x) hw1 (hov.keep (Kw.of_kb (B := B) k1)) (by rw [hxd]; exact hpp i hi)
      have HE : Hid (l ++ cat f (i + 1) = (l ++ cat f i) ++ ndl x) := (by show l ++ (cat f i ++ f i) = _; rw [show f i = ndl x by rw [hff, hxd], List.append_assoc] : l ++ cat f (i + 1) = _)
      have HK1 : Hid (Kw B wb W W1) := hk1
      clear hxd hov
      clear HX hw hk HBK HR HP HLT hcl hce hgb hpp hff hW1 k1 b1 hw1 hfl hk1
      go_upto_region 3 with fail
      rw [← (show W1 = _ from HW1)]
      clear HW1 z0 z1
      go_wp2_with fail
      refine HC.mono ?_
      rintro e w3 ⟨rfl, y1, y2⟩
      have HN : Hid (WS B wb (l ++ cat f (i + 1)) w3 ∧ Kw B wb W w3) := (⟨by rw [show l ++ cat f (i + 1) = _ from HE]; exact y1, (show Kw B wb W W1 from HK1).trans y2⟩ : _ ∧ _)
      clear HC y1 y2 HE HK1
      go_wp2_with fail
      go_roundw
      case rel => exact ⟨i + 1, by go_num, by omega, HN⟩
      case measure => simp [intOf]; omega
set_option maxHeartbeats 8000000 in
theorem im_wgraph {B wb : Nat} {W : World} {l : List Int} {v : Value} {A : Gv} {m : Nat} {D : Nat → Td} (hw : WS B wb l W) (hr : OT wb W v m D) (hA : Pok A ∧ A.x.size ≤ 1000000) (hp : ∀ j, j < m → Nop (D j)) (hm : m ≤ 600) :
    Calls Try.prog 61 #[.pointer (some ⟨wb, 0, none⟩), .agg #[.int .i64 A.k, .int .i64 A.m, .string A.x, .int .i64 A.r, v]] W (WP B wb W (l ++ gbl A m D)) := by
  have hlt : wb < W.heap.size := Nat.lt_of_lt_of_le hw.1 hw.2.1
  obtain ⟨p, cap, rfl, -⟩ := id hr
  obtain ⟨W1, hW1⟩ : ∃ W1, W1 = W.alloc (.cells #[.int .i64 A.k, .int .i64 A.m, .string A.x, .int .i64 A.r, .slice p m cap] 44) := ⟨_, rfl⟩
  have k1 : Kb 0 W W1 := by rw [hW1]; exact kb_alloc _ _ _
  have b1 : W1.heap[W.heap.size]? = some (.cells #[.int .i64 A.k, .int .i64 A.m, .string A.x, .int .i64 A.r, .slice p m cap] 44 (0, 0)) := by rw [hW1]; exact alloc_new _ _ _
  have HC := im_groups m (by omega) (hw.call k1)
  have hcc : IntKind.u64.wrap (m : Int) = (m : Int) := by rw [wrap_u64]; omega
  have c4 : W1.cell? ⟨W.heap.size, 4, none⟩ = some (.slice p m cap) := cell_of b1 rfl
  have HB1 : Hid (W1.heap[W.heap.size]? = some (.cells #[.int .i64 A.k, .int .i64 A.m, .string A.x, .int .i64 A.r, .slice p m cap] 44 (0, 0)) ∧ Kb 0 W W1 ∧ W.heap.size ≠ wb ∧ OT wb W (.slice p m cap) m D ∧ (Pok A ∧ A.x.size ≤ 1000000) ∧ (∀ j, j < m → Nop (D j)) ∧ m ≤ 600) := (⟨b1, k1, by omega, hr, hA, hp, hm⟩ : _ ∧ _)
  have HW1 : Hid (W1 = W.alloc (.cells #[.int .i64 A.k, .int .i64 A.m, .string A.x, .int .i64 A.r, .slice p m cap] 44)) := hW1
  have HL : Hid (l ++ gbl A m D = ((l ++ numb m) ++ pvl A) ++ cat (fun k => ndl (D k)) m) := (by unfold gbl; simp only [List.append_assoc] : l ++ gbl A m D = _)
  clear hw hr hp hW1 k1 b1 hlt hA hm
  go_enter Try.func61, Try.ntmps61
  go_upto_region 1 with fail
  rw [← (show W1 = _ from HW1)]
  clear HW1
  go_wp2_with fail
  refine HC.mono ?_
  rintro e w2 ⟨rfl, y1, y2⟩
  clear HC c4
  obtain ⟨b1, k1, hne, hr, hA, hp, hm⟩ := (show W1.heap[W.heap.size]? = some (.cells #[.int .i64 A.k, .int .i64 A.m, .string A.x, .int .i64 A.r, .slice p m cap] 44 (0, 0)) ∧ Kb 0 W W1 ∧ W.heap.size ≠ wb ∧ OT wb W (.slice p m cap) m D ∧ (Pok A ∧ A.x.size ≤ 1000000) ∧ (∀ j, j < m → Nop (D j)) ∧ m ≤ 600 from HB1)
  have b2 := y2.cells b1 (by decide) hne
  have kw2 : Kw B wb W w2 := (Kw.of_kb k1).trans y2
  have d0 : w2.cell? ⟨W.heap.size, 0, none⟩ = some (.int .i64 A.k) := cell_of b2 rfl
  have d1 : w2.cell? ⟨W.heap.size, 1, none⟩ = some (.int .i64 A.m) := cell_of b2 rfl
  have d2 : w2.cell? ⟨W.heap.size, 2, none⟩ = some (.string A.x) := cell_of b2 rfl
  have d3 : w2.cell? ⟨W.heap.size, 3, none⟩ = some (.int .i64 A.r) := cell_of b2 rfl
  have HC2 := im_pval y1 hA.1 hA.2
  have HB2 : Hid (w2.heap[W.heap.size]? = some (.cells #[.int .i64 A.k, .int .i64 A.m, .string A.x, .int .i64 A.r, .slice p m cap] 44 (0, 0)) ∧ Kw B wb W w2) := (⟨b2, kw2⟩ : _ ∧ _)
  clear y1 y2 b1 b2 k1 hne hr hp hA hm kw2 hcc
  go_wp2_with fail
  refine HC2.mono ?_
  rintro e w3 ⟨rfl, y1, y2⟩
  clear HC2 d0 d1 d2 d3
  obtain ⟨b1, k1, hne, hr, hA, hp, hm⟩ := (show W1.heap[W.heap.size]? = some (.cells #[.int .i64 A.k, .int .i64 A.m, .string A.x, .int .i64 A.r, .slice p m cap] 44 (0, 0)) ∧ Kb 0 W W1 ∧ W.heap.size ≠ wb ∧ OT wb W (.slice p m cap) m D ∧ (Pok A ∧ A.x.size ≤ 1000000) ∧ (∀ j, j < m → Nop (D j)) ∧ m ≤ 600 from HB1)
  obtain ⟨b2, kw2⟩ := (show w2.heap[W.heap.size]? = some (.cells #[.int .i64 A.k, .int .i64 A.m, .string A.x, .int .i64 A.r, .slice p m cap] 44 (0, 0)) ∧ Kw B wb W w2 from HB2)
  have b3 := y2.cells b2 (by decide) hne
  have kw3 := kw2.trans y2
  have d4 : w3.cell? ⟨W.heap.size, 4, none⟩ = some (.slice p m cap) := cell_of b3 rfl
  have HC3 := im_wthings y1 (hr.keep kw3) hp (by omega)
  have HK3 : Hid (Kw B wb W w3) := kw3
  clear y1 y2 b1 b2 b3 k1 hne hr hp hA hm kw2 kw3 HB1 HB2
  go_wp2_with fail
  refine HC3.mono ?_
  rintro e w4 ⟨rfl, y1, y2⟩
  have HN : Hid (WS B wb (l ++ gbl A m D) w4 ∧ Kw B wb W w4) := (⟨by rw [show l ++ gbl A m D = _ from HL]; exact y1, (show Kw B wb W w3 from HK3).trans y2⟩ : _ ∧ _)
  clear HC3 y1 y2 HL HK3 d4
  go_wp2_with fail
  exact ⟨rfl, .tuple #[], by simp [results, Try.results61], rfl, (show _ ∧ _ from HN).1, (show _ ∧ _ from HN).2⟩
end Go.Proofs.Ytamcnmnaadpfoaa.Fo
