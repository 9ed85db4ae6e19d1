import Derived.Test.YtdgainfmidoemaaGei
namespace Go.Proofs.Ytdgainfmidoemaa.Fo
open Go.ChangeShapes Go.WideShapes Go.ChangeAt Go.RowKit
set_option linter.unusedVariables false
set_option maxRecDepth 100000
/-- two rows of values are the same -/
def Vse (c d : Nat) (C D : Nat → Gv) : Prop := c = d ∧ ∀ j, j < c → C j = D j
set_option maxHeartbeats 16000000 in
theorem im_veq {va vb : Value} {c d : Nat} {C D : Nat → Gv} (w : World) (ha : RowW 0 w va c C) (hb : RowW 0 w vb d D) (hc : c ≤ 1048576) (hd : d ≤ 1048576) :
    Calls Try.prog 69 #[va, vb] w fun e w' => e = .returned (.bool (dc (Vse c d C D))) ∧ Kb 0 w w' := by
  obtain ⟨pa, ca, rfl, ha2⟩ := ha
  obtain ⟨pb, cb, rfl, hb2⟩ := hb
  have hcI : (c : Int) ≤ 1048576 := by omega
  have hdI : (d : Int) ≤ 1048576 := by omega
  obtain ⟨R, hR⟩ : ∃ R, R = dc (Vse c d C D) := ⟨_, rfl⟩
  rw [← hR]
  have HR : Hid (R = dc (Vse c d C D)) := hR
  clear hR
  by_cases hcd : c = d
  case neg =>
    obtain rfl : R = false := (show R = _ from HR).trans (dc_f (fun q => hcd q.1))
    have hne : ((c : Int) != (d : Int)) = true := by simp; omega
    clear HR ha2 hb2 hcd
    go_enter Try.func69, Try.ntmps69
    go_wp2_with fail
    go_ret
    exact ⟨rfl, Kb.refl _ _⟩
  subst hcd
  have hne : ((c : Int) != (c : Int)) = false := by simp
  have HA : Hid ((0 < c → ∃ a : Addr, pa = some a ∧ c ≤ ca ∧ 0 ≤ a.block ∧ ∀ i, i < c → ValC 0 w (a.add (i * 4)) (C i)) ∧ (0 < c → ∃ a : Addr, pb = some a ∧ c ≤ cb ∧ 0 ≤ a.block ∧ ∀ i, i < c → ValC 0 w (a.add (i * 4)) (D i))) := (⟨ha2, hb2⟩ : _ ∧ _)
  clear ha2 hb2 hc hd
  go_enter Try.func69, Try.ntmps69
  go_wp2_with fail
  go_loopw [13] (fun s13 wr => ∃ j : Nat, s13 = .int .i64 (j : Int) ∧ j ≤ c ∧ Hid (Kb 0 w wr ∧ ∀ q, q < j → C q = D q)) (fun s13 _ => c - (intOf s13).toNat)
  case atStart => exact ⟨0, rfl, Nat.zero_le _, ⟨Kb.refl _ _, fun q hq => by omega⟩⟩
  case round =>
    obtain ⟨j, rfl, hj0, HX⟩ := hrel
    obtain ⟨kw, hY⟩ := (show Kb 0 w wr ∧ ∀ q, q < j → C q = D q from HX)
    rcases Nat.lt_or_ge j c with hj | hj
    case inr =>
      obtain rfl : j = c := by omega
      have hI : ¬ (j : Int) < (j : Int) := by omega
      obtain rfl : R = true := (show R = _ from HR).trans (dc_t ⟨rfl, hY⟩)
      have HK : Hid (Kb 0 w wr) := kw
      clear HX kw hY HA HR hj
      go_wp2_with fail
      go_ret
      exact ⟨rfl, HK⟩
    have hI : (j : Int) < (c : Int) := by omega
    obtain ⟨ha2, hb2⟩ := (show (0 < c → ∃ a : Addr, pa = some a ∧ c ≤ ca ∧ 0 ≤ a.block ∧ ∀ i, i < c → ValC 0 w (a.add (i * 4)) (C i)) ∧ (0 < c → ∃ a : Addr, pb = some a ∧ c ≤ cb ∧ 0 ≤ a.block ∧ ∀ i, i < c → ValC 0 w (a.add (i * 4)) (D i)) from HA)
    obtain ⟨qa, rfl, hca, -, hra⟩ := ha2 (by omega)
    obtain ⟨qb, rfl, hcb, -, hrb⟩ := hb2 (by omega)
    obtain ⟨p0, p1, p2, p3⟩ := hra j hj
    obtain ⟨q0, q1, q2, q3⟩ := hrb j hj
    replace p0 := kw.cell p0
    replace p1 := kw.cell p1
    replace p2 := kw.cell p2
    replace p3 := kw.cell p3
    replace q0 := kw.cell q0
    replace q1 := kw.cell q1
    replace q2 := kw.cell q2
    replace q3 := kw.cell q3
    have HBD2 : Hid (¬ C j = D j → R = false) := (fun q => (show R = _ from HR).trans (dc_f (fun g => q (g.2 j hj))) : _ → _)
    have HM3 : Hid (Kb 0 w wr ∧ ∀ q, q < j → C q = D q) := (⟨kw, hY⟩ : _ ∧ _)
    have HKD2 : Hid (∀ k, Kb 0 w (wr.drewN k)) := (fun k => Kb.drewN kw k : ∀ k, _)
    clear ha2 hb2 hra hrb kw hY HX hj0
    obtain ⟨y, hy⟩ : ∃ y, y = C j := ⟨_, rfl⟩
    obtain ⟨z, hz⟩ : ∃ z, z = D j := ⟨_, rfl⟩
    rw [← hy] at p0 p1 p2 p3 HBD2
    rw [← hz] at q0 q1 q2 q3 HBD2
    have HYZ : Hid (y = C j ∧ z = D j) := (⟨hy, hz⟩ : _ ∧ _)
    clear hy hz
    by_cases hk : y.k = z.k
    case neg =>
      obtain rfl := (show _ → R = false from HBD2) (fun q => hk (by rw [q]))
      clear HBD2 HR HM3
      go_wp2_with fail
      go_quiet (fail)
      clear p0 p1 p2 p3 q0 q1 q2 q3
      go_wp2_with fail
      go_ret
      exact ⟨rfl, (show ∀ k, Kb 0 w (wr.drewN k) from HKD2) _⟩
    by_cases hm : y.m = z.m
    case neg =>
      obtain rfl := (show _ → R = false from HBD2) (fun q => hm (by rw [q]))
      clear HBD2 HR HM3
      go_wp2_with fail
      go_quiet (fail)
      clear p0 p1 p2 p3 q0 q1 q2 q3
      go_wp2_with fail
      go_ret
      exact ⟨rfl, (show ∀ k, Kb 0 w (wr.drewN k) from HKD2) _⟩
    by_cases hx : y.x.toList = z.x.toList
    case neg =>
      obtain rfl := (show _ → R = false from HBD2) (fun q => hx (by rw [q]))
      clear HBD2 HR HM3
      go_wp2_with fail
      go_quiet (fail)
      clear p0 p1 p2 p3 q0 q1 q2 q3
      go_wp2_with fail
      go_ret
      exact ⟨rfl, (show ∀ k, Kb 0 w (wr.drewN k) from HKD2) _⟩
    by_cases hr : y.r = z.r
    case neg =>
      obtain rfl := (show _ → R = false from HBD2) (fun q => hr (by rw [q]))
      clear HBD2 HR HM3
      go_wp2_with fail
      go_quiet (fail)
      clear p0 p1 p2 p3 q0 q1 q2 q3
      go_wp2_with fail
      go_ret
      exact ⟨rfl, (show ∀ k, Kb 0 w (wr.drewN k) from HKD2) _⟩
    obtain rfl : y = z := gv_ext hk hm hx hr
    clear hk hm hx hr
    have HE : Hid (∀ k, Kb 0 w (wr.drewN k) ∧ ∀ q, q < j + 1 → C q = D q) := (fun k => by
      obtain ⟨kw, hY⟩ := (show Kb 0 w wr ∧ ∀ q, q < j → C q = D q from HM3)
      refine ⟨Kb.drewN kw k, fun q hq => ?_⟩
      by_cases e : q = j
      · subst e; exact (show _ ∧ _ from HYZ).1.symm.trans (show _ ∧ _ from HYZ).2
      · exact hY q (by omega) : ∀ k, _)
    clear HM3 HBD2 HR HYZ HKD2
    go_wp2_with fail
    go_quiet (fail)
    clear p0 p1 p2 p3 q0 q1 q2 q3
    go_wp2_with fail
    go_roundw
    case rel => exact ⟨j + 1, by go_num, by omega, (show ∀ k, _ from HE) _⟩
    case measure => simp [intOf]; omega
def Tse (f g : Td) : Prop := f.t = g.t ∧ f.c = g.c ∧ ∀ j, j < f.c → f.C j = g.C j
set_option maxHeartbeats 16000000 in
theorem im_same {va vb : Value} {f g : Td} (w : World) (ha : RowW 0 w va f.c f.C) (hb : RowW 0 w vb g.c g.C) (hc : f.c ≤ 1048576) (hd : g.c ≤ 1048576) :
    Calls Try.prog 49 #[.agg #[.int .i64 f.t, va], .agg #[.int .i64 g.t, vb]] w fun e w' => e = .returned (.bool (dc (Tse f g))) ∧ Kb 0 w w' := by
  obtain ⟨w2, hw2⟩ : ∃ w2, w2 = (w.alloc (.cells #[.int .i64 f.t, va] 56)).alloc (.cells #[.int .i64 g.t, vb] 56) := ⟨_, rfl⟩
  have k2 : Kb 0 w w2 := by rw [hw2]; exact kb_alloc2 _ _ _ _
  have b0 : w2.heap[w.heap.size]? = some (.cells #[.int .i64 f.t, va] 56 (0, 0)) := by
    rw [hw2, (kb_alloc 0 _ _).block _ (Nat.zero_le _) (by rw [World.size_alloc]; omega)]
    exact alloc_new _ _ _
  have b1 : w2.heap[w.heap.size + 1]? = some (.cells #[.int .i64 g.t, vb] 56 (0, 0)) := by
    have e : (w.alloc (.cells #[.int .i64 f.t, va] 56)).heap.size = w.heap.size + 1 := World.size_alloc _ _
    rw [hw2, ← e]
    exact alloc_new _ _ _
  have a0 : w2.cell? ⟨w.heap.size, 0, none⟩ = some (.int .i64 f.t) := cell_of b0 rfl
  have a1 : w2.cell? ⟨w.heap.size, 1, none⟩ = some va := cell_of b0 rfl
  have d0 : w2.cell? ⟨w.heap.size + 1, 0, none⟩ = some (.int .i64 g.t) := cell_of b1 rfl
  have d1 : w2.cell? ⟨w.heap.size + 1, 1, none⟩ = some vb := cell_of b1 rfl
  have HW2 : Hid (w2 = (w.alloc (.cells #[.int .i64 f.t, va] 56)).alloc (.cells #[.int .i64 g.t, vb] 56)) := hw2
  have HK2 : Hid (Kb 0 w w2) := k2
  have HC := im_veq w2 (ha.keep k2) (hb.keep k2) hc hd
  obtain ⟨pa, ca, rfl, -⟩ := id ha
  obtain ⟨pb, cb, rfl, -⟩ := id hb
  obtain ⟨R, hR⟩ : ∃ R, R = dc (Tse f g) := ⟨_, rfl⟩
  rw [← hR]
  by_cases ht : f.t = g.t
  case neg =>
    obtain rfl : R = false := hR.trans (dc_f (fun q => ht q.1))
    have htn : (f.t == g.t) = false := bne ht
    clear hR HC ha hb b0 b1 k2 hw2 ht
    go_enter Try.func49, Try.ntmps49
    go_upto_region 1 with fail
    rw [← (show w2 = _ from HW2)]
    clear HW2
    go_wp2_with fail
    go_ret
    exact ⟨rfl, HK2⟩
  have htn : (f.t == g.t) = true := by simpa using ht
  have HR : Hid (R = dc (Vse f.c g.c f.C g.C)) := (by
    rw [hR]
    by_cases q : Tse f g
    · rw [dc_t q, dc_t (show Vse f.c g.c f.C g.C from q.2)]
    · rw [dc_f q, dc_f (show ¬ Vse f.c g.c f.C g.C from fun z => q ⟨ht, z⟩)] : R = _)
  clear hR ha hb b0 b1 k2 hw2 ht
  go_enter Try.func49, Try.ntmps49
  go_upto_region 1 with fail
  rw [← (show w2 = _ from HW2)]
  clear HW2
  go_wp2_with fail
  refine HC.mono ?_
  rintro e w3 ⟨rfl, k3⟩
  rw [← (show R = _ from HR)]
  have HK3 : Hid (Kb 0 w w3) := (show Kb 0 w w2 from HK2).trans k3
  clear HC HK2 a0 a1 d0 d1 k3 HR
  go_wp2_with fail
  go_ret
  exact ⟨rfl, HK3⟩
def Nse (n m : Nat) (F G : Nat → Td) : Prop := n = m ∧ ∀ i, i < n → Tse (F i) (G i)
set_option maxHeartbeats 16000000 in
theorem im_eqf {va vb : Value} {n m : Nat} {F G : Nat → Td} (w : World) (ha : RowT 0 w va n F) (hb : RowT 0 w vb m G) (hn : n ≤ 1048576) (hm : m ≤ 1048576) (hF : ∀ i, i < n → (F i).c ≤ 1048576) (hG : ∀ i, i < m → (G i).c ≤ 1048576) :
    Calls Try.prog 48 #[va, vb, .func (.func 49) #[] #[]] w fun e w' => e = .returned (.bool (dc (Nse n m F G))) ∧ Kb 0 w w' := by
  obtain ⟨pa, ca, rfl, ha2⟩ := ha
  obtain ⟨pb, cb, rfl, hb2⟩ := hb
  have hnI : (n : Int) ≤ 1048576 := by omega
  have hmI : (m : Int) ≤ 1048576 := by omega
  obtain ⟨R, hR⟩ : ∃ R, R = dc (Nse n m F G) := ⟨_, rfl⟩
  rw [← hR]
  have HR : Hid (R = dc (Nse n m F G)) := hR
  clear hR
  by_cases hnm : n = m
  case neg =>
    obtain rfl : R = false := (show R = _ from HR).trans (dc_f (fun q => hnm q.1))
    have hne : ((n : Int) != (m : Int)) = true := by simp; omega
    clear HR ha2 hb2 hnm hF hG
    go_enter Try.func48, Try.ntmps48
    go_wp2_with fail
    go_ret
    exact ⟨rfl, Kb.refl _ _⟩
  subst hnm
  have hne : ((n : Int) != (n : Int)) = false := by simp
  have HA : Hid ((0 < n → ∃ a : Addr, pa = some a ∧ n ≤ ca ∧ 0 ≤ a.block ∧ ∀ i, i < n → ThC 0 w (a.add (i * 2)) (F i)) ∧ (0 < n → ∃ a : Addr, pb = some a ∧ n ≤ cb ∧ 0 ≤ a.block ∧ ∀ i, i < n → ThC 0 w (a.add (i * 2)) (G i)) ∧ (∀ i, i < n → (F i).c ≤ 1048576) ∧ ∀ i, i < n → (G i).c ≤ 1048576) := (⟨ha2, hb2, hF, hG⟩ : _ ∧ _)
  clear ha2 hb2 hn hm hF hG
  go_enter Try.func48, Try.ntmps48
  go_wp2_with fail
  go_loopw [17] (fun s17 wr => ∃ i : Nat, s17 = .int .i64 (i : Int) ∧ i ≤ n ∧ Hid (Kb 0 w wr ∧ ∀ q, q < i → Tse (F q) (G q))) (fun s17 _ => n - (intOf s17).toNat)
  case atStart => exact ⟨0, rfl, Nat.zero_le _, ⟨Kb.refl _ _, fun q hq => by omega⟩⟩
  case round =>
    obtain ⟨i, rfl, hi0, HX⟩ := hrel
    obtain ⟨kw, hY⟩ := (show Kb 0 w wr ∧ ∀ q, q < i → Tse (F q) (G q) from HX)
    rcases Nat.lt_or_ge i n with hi | hi
    case inr =>
      obtain rfl : i = n := by omega
      have hI : ¬ (i : Int) < (i : Int) := by omega
      obtain rfl : R = true := (show R = _ from HR).trans (dc_t ⟨rfl, hY⟩)
      have HK : Hid (Kb 0 w wr) := kw
      clear HX kw hY HA HR hi
      go_wp2_with fail
      go_ret
      exact ⟨rfl, HK⟩
    have hI : (i : Int) < (n : Int) := by omega
    obtain ⟨ha2, hb2, hF, hG⟩ := (show (0 < n → ∃ a : Addr, pa = some a ∧ n ≤ ca ∧ 0 ≤ a.block ∧ ∀ i, i < n → ThC 0 w (a.add (i * 2)) (F i)) ∧ (0 < n → ∃ a : Addr, pb = some a ∧ n ≤ cb ∧ 0 ≤ a.block ∧ ∀ i, i < n → ThC 0 w (a.add (i * 2)) (G i)) ∧ (∀ i, i < n → (F i).c ≤ 1048576) ∧ ∀ i, i < n → (G i).c ≤ 1048576 from HA)
    obtain ⟨qa, rfl, hca, -, hra⟩ := ha2 (by omega)
    obtain ⟨qb, rfl, hcb, -, hrb⟩ := hb2 (by omega)
    obtain ⟨vc, ⟨y0, y1⟩, hvc⟩ := hra i hi
    obtain ⟨vd, ⟨z0, z1⟩, hvd⟩ := hrb i hi
    obtain ⟨W1, hW1⟩ : ∃ W1, W1 = wr.alloc (.cells #[.int .i64 (F i).t, vc] 56) := ⟨_, rfl⟩
    obtain ⟨W2, hW2⟩ : ∃ W2, W2 = W1.alloc (.cells #[.int .i64 (G i).t, vd] 56) := ⟨_, rfl⟩
    have k1 : Kb 0 wr W1 := by rw [hW1]; exact kb_alloc _ _ _
    have k2 : Kb 0 W1 W2 := by rw [hW2]; exact kb_alloc _ _ _
    have s1 : W1.heap.size = wr.heap.size + 1 := by rw [hW1, World.size_alloc]
    have b0 : W2.heap[wr.heap.size]? = some (.cells #[.int .i64 (F i).t, vc] 56 (0, 0)) := by
      rw [k2.block _ (Nat.zero_le _) (by omega), hW1]
      exact alloc_new _ _ _
    have b1 : W2.heap[wr.heap.size + 1]? = some (.cells #[.int .i64 (G i).t, vd] 56 (0, 0)) := by rw [hW2, ← s1]; exact alloc_new _ _ _
    have HC := im_same (f := F i) (g := G i) W2 ((hvc.keep kw).keep (k1.trans k2)) ((hvd.keep kw).keep (k1.trans k2)) (hF i hi) (hG i hi)
    replace y0 := kw.cell y0
    replace y1 := kw.cell y1
    replace z0 := (kw.trans k1).cell z0
    replace z1 := (kw.trans k1).cell z1
    obtain ⟨pc, cc, rfl, -⟩ := hvc
    obtain ⟨pd, cd, rfl, -⟩ := hvd
    have a0 : W2.cell? ⟨wr.heap.size, 0, none⟩ = some (.int .i64 (F i).t) := cell_of b0 rfl
    have a1 : W2.cell? ⟨wr.heap.size, 1, none⟩ = some (.slice pc (F i).c cc) := cell_of b0 rfl
    have d0 : W2.cell? ⟨wr.heap.size + 1, 0, none⟩ = some (.int .i64 (G i).t) := cell_of b1 rfl
    have d1 : W2.cell? ⟨wr.heap.size + 1, 1, none⟩ = some (.slice pd (G i).c cd) := cell_of b1 rfl
    have HW1 : Hid (W1 = wr.alloc (.cells #[.int .i64 (F i).t, .slice pc (F i).c cc] 56)) := hW1
    have HW2 : Hid (W2 = W1.alloc (.cells #[.int .i64 (G i).t, .slice pd (G i).c cd] 56)) := hW2
    have HS1 : Hid (W1.heap.size = wr.heap.size + 1) := s1
    have HM3 : Hid (Kb 0 w W2 ∧ (∀ q, q < i → Tse (F q) (G q)) ∧ i < n) := (⟨kw.trans (k1.trans k2), hY, hi⟩ : _ ∧ _)
    clear ha2 hb2 hra hrb kw hY HX hi0 hF hG k1 k2 b0 b1 hW1 hW2 s1
    go_upto_region 6 with fail
    rw [← (show W1 = _ from HW1)]
    clear HW1 y0 y1
    have s1 := (show W1.heap.size = wr.heap.size + 1 from HS1)
    go_upto_region 7 with fail
    rw [← (show W2 = _ from HW2)]
    clear HW2 z0 z1 s1 HS1
    go_wp2_with fail
    refine HC.mono ?_
    rintro e w6 ⟨rfl, k6⟩
    clear HC a0 a1 d0 d1
    obtain ⟨kw2, hY, hi⟩ := (show Kb 0 w W2 ∧ (∀ q, q < i → Tse (F q) (G q)) ∧ i < n from HM3)
    have HK6 : Hid (Kb 0 w w6) := kw2.trans k6
    by_cases hT : Tse (F i) (G i)
    case neg =>
      rw [dc_f hT]
      obtain rfl : R = false := (show R = _ from HR).trans (dc_f (fun g => hT (g.2 i hi)))
      clear kw2 hY hT HM3 HR HA k6
      go_wp2_with fail
      go_ret
      exact ⟨rfl, HK6⟩
    rw [dc_t hT]
    have HE : Hid (Kb 0 w w6 ∧ ∀ q, q < i + 1 → Tse (F q) (G q)) := (⟨HK6, fun q hq => by
      by_cases e : q = i
      · subst e; exact hT
      · exact hY q (by omega)⟩ : _ ∧ _)
    clear kw2 hY hT HM3 HR HA k6 HK6
    go_wp2_with fail
    go_roundw
    case rel => exact ⟨i + 1, by go_num, by omega, HE⟩
    case measure => simp [intOf]; omega
end Go.Proofs.Ytdgainfmidoemaa.Fo
