import Derived.Test.YtfpidccjcemcjaaUdd
import Derived.Test.YtfpidccjcemcjaaUcd
namespace Go.Proofs.Ytfpidccjcemcjaa
open Go.ChangeShapes Go.WideShapes Go.ChangeAt Go.RowKit
set_option linter.unusedVariables false
set_option maxRecDepth 100000
/-- the first n pairs as a list -/
def lsp (F : Nat → Pv) (n : Nat) : List Pv := (List.range n).map F
theorem lsp_succ (F : Nat → Pv) (n : Nat) : lsp F (n + 1) = lsp F n ++ [F n] := by simp [lsp, List.range_succ]
theorem lsp_len (F : Nat → Pv) (n : Nat) : (lsp F n).length = n := by simp [lsp]
theorem look_none (m : Vv) : ∀ L : List (Vv × Int), look m L = none ↔ ∀ p ∈ L, ¬ mk m = mk p.1
  | [] => by simp [look]
  | p :: L => by
    unfold look
    by_cases q : mk m = mk p.1
    · rw [dc_t q]
      simp [q]
    · rw [dc_f q]
      simp only [Bool.false_eq_true, if_false]
      rw [look_none m L]
      simp [q]
theorem look_lsp (m : Vv) (F : Nat → Pv) (i : Nat) : look m (kts (lsp F i)) = none ↔ ∀ j, j < i → ¬ mk (F j).a = mk m := by
  rw [look_none]
  unfold kts lsp
  simp only [List.map_map, List.mem_map, List.mem_range]
  constructor
  · intro h j hj e
    exact h _ ⟨j, hj, rfl⟩ e.symm
  · rintro h p ⟨j, hj, rfl⟩ e
    exact h j hj e.symm
theorem pok_can (F : Nat → Pv) (T : Int) (i : Nat) : pok F T i ↔ lst F i < (F i).t ∧ (F i).t ≤ T ∧ can (kts (lsp F i)) (F i) := by
  unfold pok can
  rw [look_lsp]
  constructor
  · rintro ⟨h1, h2, h3, h4, h5, h6⟩; exact ⟨h4, h5, h1, h2, h3, h6⟩
  · rintro ⟨h4, h5, h1, h2, h3, h6⟩; exact ⟨h1, h2, h3, h4, h5, h6⟩
theorem Lg.base {w w1 : World} {B M : Nat} {pre : List Pv} {v : Value} {T : Int} {W : World} (h : Lg w1 B M pre v T W) (k : Kq w w1) : Lg w B M pre v T W :=
  ⟨k.trans h.kq, Nat.le_trans k.size h.lo, h.mb, h.ob, h.row, h.mp⟩
/-- what ledgerOf answers -/
def LO (w : World) (n : Nat) (F : Nat → Pv) (T : Int) (e : Ending) (w' : World) : Prop :=
  (¬ tok n F T ∧ e = .returned (.tuple #[.pointer none, .bool false]) ∧ Kq w w') ∨ (tok n F T ∧ ∃ B M v', e = .returned (.tuple #[.pointer (some ⟨B, 0, none⟩), .bool true]) ∧ Lg w B M (lsp F n) v' T w')
set_option maxHeartbeats 4000000 in
theorem im_lo_n {pa : Option Addr} {ca n : Nat} {F : Nat → Pv} (T : Int) (w : World) (hn : n ≤ 1048576) (h : 500 < n) : Calls Try.prog 43 #[.agg #[.slice pa n ca, .int .i64 T]] w fun e w' => LO w n F T e w' := by
  have HT : Hid (¬ tok n F T) := (fun h : tok n F T => by have := h.1; omega : ¬ tok n F T)
  have hnI : (n : Int) ≤ 1048576 := by omega
  have h1 : 500 < (n : Int) := by omega
  clear hn
  go_enter Try.func43, Try.ntmps43
  go_wp2_with fail
  refine bodyPost_ret (by simp [results, Try.results43, go_sem]; rfl) rfl ?_
  exact .inl ⟨HT, rfl, .of_grown (by go_grown)⟩
set_option maxHeartbeats 4000000 in
theorem im_lo_l {pa : Option Addr} {ca n : Nat} {F : Nat → Pv} (T : Int) (w : World) (hn : n ≤ 1048576) (h0 : n ≤ 500) (h : T < 0) : Calls Try.prog 43 #[.agg #[.slice pa n ca, .int .i64 T]] w fun e w' => LO w n F T e w' := by
  have HT : Hid (¬ tok n F T) := (fun h : tok n F T => by have := h.2.1; omega : ¬ tok n F T)
  have hnI : (n : Int) ≤ 1048576 := by omega
  have h1 : ¬ 500 < (n : Int) := by omega
  clear hn
  go_enter Try.func43, Try.ntmps43
  go_wp2_with fail
  refine bodyPost_ret (by simp [results, Try.results43, go_sem]; rfl) rfl ?_
  exact .inl ⟨HT, rfl, .of_grown (by go_grown)⟩
set_option maxHeartbeats 4000000 in
theorem im_lo_g {pa : Option Addr} {ca n : Nat} {F : Nat → Pv} (T : Int) (w : World) (hn : n ≤ 1048576) (h0 : n ≤ 500) (h2 : 0 ≤ T) (h : 1000000000000 < T) : Calls Try.prog 43 #[.agg #[.slice pa n ca, .int .i64 T]] w fun e w' => LO w n F T e w' := by
  have HT : Hid (¬ tok n F T) := (fun h : tok n F T => by have := h.2.2.1; omega : ¬ tok n F T)
  have hnI : (n : Int) ≤ 1048576 := by omega
  have h1 : ¬ 500 < (n : Int) := by omega
  have h3 : ¬ T < 0 := by omega
  clear hn
  go_enter Try.func43, Try.ntmps43
  go_wp2_with fail
  refine bodyPost_ret (by simp [results, Try.results43, go_sem]; rfl) rfl ?_
  exact .inl ⟨HT, rfl, .of_grown (by go_grown)⟩
set_option maxHeartbeats 16000000 in
theorem im_ledger {v : Value} {g n : Nat} {F : Nat → Pv} (T : Int) (w : World) (ha : OwnP w v g n F) (tb : Tb n F) : Calls Try.prog 43 #[.agg #[v, .int .i64 T]] w fun e w' => LO w n F T e w' := by
  obtain ⟨pa, ca, rfl, ha2⟩ := ha.sl
  rcases Nat.lt_or_ge 500 n with hn5 | hn5
  · exact im_lo_n T w tb.len hn5
  rcases Int.lt_or_le T 0 with ht0 | ht0
  · exact im_lo_l T w tb.len hn5 ht0
  rcases Int.lt_or_le 1000000000000 T with ht1 | ht1
  · exact im_lo_g T w tb.len hn5 ht0 ht1
  have h1 : ¬ 500 < (n : Int) := by omega
  have h2 : ¬ T < 0 := by omega
  have h3 : ¬ 1000000000000 < T := by omega
  have hnI : (n : Int) ≤ 500 := by omega
  have hmk := fun w => run_makeMk (n : Int) w
  have HA : Hid ((0 < n → pa = some ⟨g, 0, none⟩ ∧ n ≤ ca) ∧ (∀ i, i < n → Cp w ⟨g, i * 11, none⟩ (F i)) ∧ Tb n F ∧ n ≤ 500 ∧ 0 ≤ T ∧ T ≤ 1000000000000) := (⟨ha2, ha.ce, tb, hn5, ht0, ht1⟩ : _ ∧ _ ∧ _ ∧ _ ∧ _ ∧ _)
  obtain ⟨w1, hw1⟩ : ∃ w1, w1 = w.alloc (.cells #[.slice pa n ca, .int .i64 T] 40) := ⟨_, rfl⟩
  have K1 : Kq w w1 := by rw [hw1]; exact kq_alloc _ _ _
  have a0 : w1.heap[w.heap.size]? = some (.cells #[.slice pa n ca, .int .i64 T] 40 (0, 0)) := by rw [hw1]; exact alloc_new _ _
  have HW1 : Hid (Kq w w1 ∧ w1.heap[w.heap.size]? = some (.cells #[.slice pa n ca, .int .i64 T] 40 (0, 0))) := (⟨K1, a0⟩ : _ ∧ _)
  have HS : Hid (∀ W', Kq w1 W' → W'.cell? ⟨w.heap.size, 0, none⟩ = some (.slice pa n ca) ∧ W'.cell? ⟨w.heap.size, 1, none⟩ = some (.int .i64 T)) := (fun W' q => ⟨q.cell (cell_of a0 rfl), q.cell (cell_of a0 rfl)⟩ : ∀ W', Kq w1 W' → _)
  have HL0 : Hid (Lg w1 (w1.heap.size + 1) w1.heap.size (lsp F 0) (.slice none 0 0) T ((w1.alloc (.map #[] 0)).alloc (.cells #[.slice none 0 0, .int .i64 T, .map (some w1.heap.size)] 74))) := by
    have e1 : (w1.alloc (.map #[] 0)).heap.size = w1.heap.size + 1 := World.size_alloc _ _
    have k1 : Kq w1 (w1.alloc (.map #[] 0)) := ⟨rfl, rfl, by rw [e1]; omega, fun i hi => Below.heap_alloc _ _ _ hi⟩
    refine (⟨k1.trans (kq_alloc _ _ _), Nat.le_refl _, Nat.lt_succ_self _, ?_, ?_, ?_⟩ : Lg w1 (w1.heap.size + 1) w1.heap.size (lsp F 0) (.slice none 0 0) T ((w1.alloc (.map #[] 0)).alloc (.cells #[.slice none 0 0, .int .i64 T, .map (some w1.heap.size)] 74)))
    · rw [← e1]; exact alloc_new _ _
    · exact ⟨rfl, .inl ⟨rfl, rfl⟩⟩
    · exact (Mp.new w1).kq (kq_alloc _ _ _)
  clear ha2 ha tb hn5 ht0 ht1 K1 a0
  have hst : ∀ (a : Addr) (n : Nat) (m : Mode) (w : World), (store a (.float .f64 n) m).run Try.prog w = stored Try.prog w a (.float .f64 n) m := fun a n m w => run_store _ _ _ _ _ rfl
  go_enter Try.func43, Try.ntmps43
  go_wp2_with fail
  rw [← hw1]
  clear hw1
  refine AnyL.region (S := fun W' : World => W'.cell? ⟨w.heap.size, 0, none⟩ = some (.slice pa n ca) ∧ W'.cell? ⟨w.heap.size, 1, none⟩ = some (.int .i64 T)) (z := 99) (by kernel_rfl) ?_
  have hS0 : (fun W' : World => W'.cell? ⟨w.heap.size, 0, none⟩ = some (.slice pa n ca) ∧ W'.cell? ⟨w.heap.size, 1, none⟩ = some (.int .i64 T)) w1.drew := (show ∀ W', Kq w1 W' → W'.cell? ⟨w.heap.size, 0, none⟩ = some (.slice pa n ca) ∧ W'.cell? ⟨w.heap.size, 1, none⟩ = some (.int .i64 T) from HS) w1.drew (Kq.drew (Kq.refl _))
  refine AnyL.takeAt 0 (.pointer (some ⟨w.heap.size, 1, none⟩)) rfl (by kernel_rfl) (by kernel_rfl) (by kernel_rfl) (by kernel_rfl) (fun _ _ _ h => h) rfl hS0 (by intro W hW; obtain ⟨q0, q1⟩ := hW; go_simp) ?_
  try simp only [Act.put, List.setIfInBounds_toArray, List.set_cons_zero, List.set_cons_succ]
  refine AnyL.takeAt 1 (.int .i64 T) rfl (by kernel_rfl) (by kernel_rfl) (by kernel_rfl) (by kernel_rfl) (fun _ _ _ h => h) rfl hS0 (by intro W hW; obtain ⟨q0, q1⟩ := hW; go_simp) ?_
  try simp only [Act.put, List.setIfInBounds_toArray, List.set_cons_zero, List.set_cons_succ]
  refine AnyL.takeAt 2 (.pointer (some ⟨w.heap.size, 0, none⟩)) rfl (by kernel_rfl) (by kernel_rfl) (by kernel_rfl) (by kernel_rfl) (fun _ _ _ h => h) rfl hS0 (by intro W hW; obtain ⟨q0, q1⟩ := hW; go_simp) ?_
  try simp only [Act.put, List.setIfInBounds_toArray, List.set_cons_zero, List.set_cons_succ]
  refine AnyL.takeAt 3 (.slice pa n ca) rfl (by kernel_rfl) (by kernel_rfl) (by kernel_rfl) (by kernel_rfl) (fun _ _ _ h => h) rfl hS0 (by intro W hW; obtain ⟨q0, q1⟩ := hW; go_simp) ?_
  try simp only [Act.put, List.setIfInBounds_toArray, List.set_cons_zero, List.set_cons_succ]
  refine AnyL.takeAt 4 (.int .i64 (n : Int)) rfl (by kernel_rfl) (by kernel_rfl) (by kernel_rfl) (by kernel_rfl) (fun _ _ _ h => h) rfl hS0 (by intro W hW; obtain ⟨q0, q1⟩ := hW; go_simp) ?_
  try simp only [Act.put, List.setIfInBounds_toArray, List.set_cons_zero, List.set_cons_succ]
  refine AnyL.oneAt 5 rfl (by kernel_rfl) rfl ?_
  intro K hK
  go_simp
  have KM : Kq w1 ((w1.alloc (.map #[] 0)).drew) := (⟨rfl, rfl, Nat.le_of_lt (by show w1.heap.size < (w1.alloc (.map #[] 0)).heap.size; rw [World.size_alloc]; omega), fun i hi => Below.heap_alloc _ _ _ hi⟩ : Kq w1 ((w1.alloc (.map #[] 0)).drew))
  refine hK.out _ _ (fun _ => (show ∀ W', Kq w1 W' → W'.cell? ⟨w.heap.size, 0, none⟩ = some (.slice pa n ca) ∧ W'.cell? ⟨w.heap.size, 1, none⟩ = some (.int .i64 T) from HS) _ (KM)) ?_
  clear hK K
  try simp only [Act.put, List.setIfInBounds_toArray, List.set_cons_zero, List.set_cons_succ]
  have hS1 := (show ∀ W', Kq w1 W' → W'.cell? ⟨w.heap.size, 0, none⟩ = some (.slice pa n ca) ∧ W'.cell? ⟨w.heap.size, 1, none⟩ = some (.int .i64 T) from HS) _ KM
  refine AnyL.takeAt 6 (.agg #[.slice none 0 0, .int .i64 T, .map (some w1.heap.size)]) rfl (by kernel_rfl) (by kernel_rfl) (by kernel_rfl) (by kernel_rfl) (fun _ _ _ h => h) rfl hS1 (by intro W hW; go_simp) ?_
  try simp only [Act.put, List.setIfInBounds_toArray, List.set_cons_zero, List.set_cons_succ]
  refine AnyL.oneAt 7 rfl (by kernel_rfl) rfl ?_
  intro K hK
  go_simp
  refine hK.out _ _ (fun _ => (show ∀ W', Kq w1 W' → W'.cell? ⟨w.heap.size, 0, none⟩ = some (.slice pa n ca) ∧ W'.cell? ⟨w.heap.size, 1, none⟩ = some (.int .i64 T) from HS) _ (Kq.drew (Lg.kq HL0))) ?_
  clear hK K
  try simp only [Act.put, List.setIfInBounds_toArray, List.set_cons_zero, List.set_cons_succ]
  have hS2 := (show ∀ W', Kq w1 W' → W'.cell? ⟨w.heap.size, 0, none⟩ = some (.slice pa n ca) ∧ W'.cell? ⟨w.heap.size, 1, none⟩ = some (.int .i64 T) from HS) _ (Kq.drew (Lg.kq HL0))
  refine AnyL.takeAt 8 (.pointer (some ⟨w1.heap.size + 1, 0, none⟩)) rfl (by kernel_rfl) (by kernel_rfl) (by kernel_rfl) (by kernel_rfl) (fun _ _ _ h => h) rfl hS2 (by intro W hW; go_simp) ?_
  try simp only [Act.put, List.setIfInBounds_toArray, List.set_cons_zero, List.set_cons_succ]
  refine AnyL.done (by kernel_rfl) ?_
  have HL1 : Hid (Lg w1 (w1.heap.size + 1) w1.heap.size (lsp F 0) (.slice none 0 0) T ((w1.alloc (.map #[] 0)).alloc (.cells #[.slice none 0 0, .int .i64 T, .map (some w1.heap.size)] 74)).drew) := Lg.on HL0 (Kq.drew (Kq.refl _))
  clear hS0 hS1 hS2 KM HL0 hmk
  generalize ((w1.alloc (.map #[] 0)).alloc (.cells #[.slice none 0 0, .int .i64 T, .map (some w1.heap.size)] 74)).drew = WL at HL1 ⊢
  generalize w1.heap.size + 1 = B at HL1 ⊢
  generalize w1.heap.size = M at HL1 ⊢
  obtain ⟨b0, b1⟩ := (show ∀ W', Kq w1 W' → W'.cell? ⟨w.heap.size, 0, none⟩ = some (.slice pa n ca) ∧ W'.cell? ⟨w.heap.size, 1, none⟩ = some (.int .i64 T) from HS) WL (Lg.kq HL1)
  go_wp2_with fail
  clear b0 b1
  go_loopw [5, 33] (fun s5 s33 wr => ∃ (i : Nat) (v' : Value), s5 = .int .i64 (lst F i) ∧ s33 = .int .i64 (i : Int) ∧ i ≤ n ∧ Hid (Lg w1 B M (lsp F i) v' T wr ∧ ∀ j, j < i → pok F T j)) (fun _ s33 _ => n - (intOf s33).toNat)
  case atStart => exact ⟨0, _, rfl, rfl, Nat.zero_le _, (⟨HL1, fun j hj => by omega⟩ : _ ∧ _)⟩
  case round =>
    clear HL1
    obtain ⟨i, v', rfl, rfl, hin, HX⟩ := hrel
    rcases Nat.lt_or_ge i n with hi | hi
    · have hA := (show (0 < n → pa = some ⟨g, 0, none⟩ ∧ n ≤ ca) ∧ (∀ i, i < n → Cp w ⟨g, i * 11, none⟩ (F i)) ∧ Tb n F ∧ n ≤ 500 ∧ 0 ≤ T ∧ T ≤ 1000000000000 from HA)
      have hX := (show Lg w1 B M (lsp F i) v' T wr ∧ ∀ j, j < i → pok F T j from HX)
      have hW1 := (show Kq w w1 ∧ w1.heap[w.heap.size]? = some (.cells #[.slice pa n ca, .int .i64 T] 40 (0, 0)) from HW1)
      obtain ⟨rfl, hca⟩ := hA.1 (by omega)
      have tb := hA.2.2.1
      have kwr : Kq w wr := hW1.1.trans hX.1.kq
      have hc := (hA.2.1 i hi).kq kwr
      obtain ⟨b0, b1⟩ := (show ∀ W', Kq w1 W' → W'.cell? ⟨w.heap.size, 0, none⟩ = some (.slice (some ⟨g, 0, none⟩) n ca) ∧ W'.cell? ⟨w.heap.size, 1, none⟩ = some (.int .i64 T) from HS) wr hX.1.kq
      have HC : Hid (∀ W, Lg w1 B M (lsp F i) v' T W → Calls Try.prog 66 #[.pointer (some ⟨B, 0, none⟩), pv (F i)] W fun e w' => e = .returned (.bool (dc (can (kts (lsp F i)) (F i)))) ∧ Kq W w') := (fun W h => im_can (F i) (tb.a i hi) (tb.xa i hi) (tb.xb i hi) W (cell_of h.ob rfl) h.mp : ∀ W, Lg w1 B M (lsp F i) v' T W → _)
      have HE : Hid (can (kts (lsp F i)) (F i) → ∀ W, Lg w1 B M (lsp F i) v' T W → Calls Try.prog 67 #[.pointer (some ⟨B, 0, none⟩), pv (F i)] W fun e W' => e = .returned (.tuple #[]) ∧ ∃ v', Lg w1 B M (lsp F (i + 1)) v' T W') := (fun hc W h => by rw [lsp_succ]; exact im_enter0 (F i) hc.1 (tb.xa i hi) (tb.xb i hi) W h hc.2.2.2 (by rw [lsp_len]; omega) : can (kts (lsp F i)) (F i) → ∀ W, _)
      have HBAD : Hid (¬ pok F T i → ¬ tok n F T) := (fun h h' => h (h'.2.2.2 i hi) : ¬ pok F T i → ¬ tok n F T)
      have HGOOD : Hid (pok F T i → ∀ j, j < i + 1 → pok F T j) := (fun h j hj => by
        by_cases e : j = i
        · subst e; exact h
        · exact hX.2 j (by omega) : pok F T i → ∀ j, j < i + 1 → pok F T j)
      have HLG : Hid (Lg w1 B M (lsp F i) v' T wr) := hX.1
      have HPK : Hid (pok F T i ↔ lst F i < (F i).t ∧ (F i).t ≤ T ∧ can (kts (lsp F i)) (F i)) := pok_can F T i
      have HFT : Hid (lst F (i + 1) = (F i).t) := rfl
      have HKW : Hid (Kq w w1) := hW1.1
      have hiI : (i : Int) < (n : Int) := by omega
      clear hA HA hX HX hW1 HW1 tb kwr hin HS
      generalize F i = p at HC HE HPK HFT hc
      generalize lst F i = la at HPK ⊢
      obtain ⟨⟨k, m, gg, x, r⟩, ⟨k2, m2, g2, x2, r2⟩, t⟩ := p
      obtain ⟨d0, d1, d2, d3, d4, d5, d6, d7, d8, d9, d10⟩ := hc
      dsimp only at HPK HFT d0 d1 d2 d3 d4 d5 d6 d7 d8 d9 d10
      have hst : ∀ (a : Addr) (n : Nat) (m : Mode) (w : World), (store a (.float .f64 n) m).run Try.prog w = stored Try.prog w a (.float .f64 n) m := fun a n m w => run_store _ _ _ _ _ rfl
      obtain ⟨w2, hw2⟩ : ∃ w2, w2 = wr.alloc (.cells #[.int .i64 k, .int .i64 m, .float .f64 gg, .string x, .int .i64 r, .int .i64 k2, .int .i64 m2, .float .f64 g2, .string x2, .int .i64 r2, .int .i64 t] 51) := ⟨_, rfl⟩
      have kq2 : Kq wr w2 := by rw [hw2]; exact kq_alloc _ _ _
      have HP2 : Hid (Pb w2 wr.heap.size ⟨⟨k, m, gg, x, r⟩, ⟨k2, m2, g2, x2, r2⟩, t⟩ ∧ Lg w1 B M (lsp F i) v' T w2) := (⟨by rw [hw2]; exact Pb.new wr ⟨⟨k, m, gg, x, r⟩, ⟨k2, m2, g2, x2, r2⟩, t⟩ 51, Lg.on HLG kq2⟩ : _ ∧ _)
      have c1 := kq2.cell b1
      rw [hw2] at c1
      clear kq2 HLG
      rcases Int.lt_or_le la t with hlt | hlt
      case inr =>
        have HNT : Hid (¬ tok n F T) := (show ¬ pok F T i → ¬ tok n F T from HBAD) (fun h => by have := ((show pok F T i ↔ _ from HPK).1 h).1; omega)
        have KE : Hid (Kq w w2) := Kq.trans HKW (Lg.kq (show _ ∧ Lg w1 B M (lsp F i) v' T w2 from HP2).2)
        clear HC HE HBAD HGOOD HPK HFT HP2
        go_wp2_with fail
        rw [← hw2]
        refine bodyPost_ret (by simp [results, Try.results43, go_sem]; rfl) rfl ?_
        exact .inl ⟨HNT, rfl, KE⟩
      have q1 : ¬ t ≤ la := by omega
      rcases Int.lt_or_le T t with htt | htt
      case inl =>
        have HNT : Hid (¬ tok n F T) := (show ¬ pok F T i → ¬ tok n F T from HBAD) (fun h => by have := ((show pok F T i ↔ _ from HPK).1 h).2.1; omega)
        have KE : Hid (Kq w w2) := Kq.trans HKW (Lg.kq (show _ ∧ Lg w1 B M (lsp F i) v' T w2 from HP2).2)
        clear HC HE HBAD HGOOD HPK HFT HP2
        go_wp2_with fail
        rw [← hw2]
        refine bodyPost_ret (by simp [results, Try.results43, go_sem]; rfl) rfl ?_
        exact .inl ⟨HNT, rfl, KE⟩
      have q2 : ¬ T < t := by omega
      go_wp2_with fail
      rw [← hw2]
      clear hw2 c1 b0 b1 d0 d1 d2 d3 d4 d5 d6 d7 d8 d9 d10
      refine ((show ∀ W, Lg w1 B M (lsp F i) v' T W → _ from HC) w2 (show _ ∧ Lg w1 B M (lsp F i) v' T w2 from HP2).2).mono ?_
      rintro e w3 ⟨rfl, g3⟩
      have HL3 : Hid (Lg w1 B M (lsp F i) v' T w3) := Lg.on (show _ ∧ Lg w1 B M (lsp F i) v' T w2 from HP2).2 g3
      have HP3 : Hid (Pb w3 wr.heap.size ⟨⟨k, m, gg, x, r⟩, ⟨k2, m2, g2, x2, r2⟩, t⟩) := Pb.kq (show Pb w2 wr.heap.size ⟨⟨k, m, gg, x, r⟩, ⟨k2, m2, g2, x2, r2⟩, t⟩ ∧ _ from HP2).1 g3
      clear g3 HP2 HC
      by_cases hcan : can (kts (lsp F i)) ⟨⟨k, m, gg, x, r⟩, ⟨k2, m2, g2, x2, r2⟩, t⟩
      case neg =>
        rw [dc_f hcan]
        have HNT : Hid (¬ tok n F T) := (show ¬ pok F T i → ¬ tok n F T from HBAD) (fun h => hcan ((show pok F T i ↔ _ from HPK).1 h).2.2)
        have KE : Hid (Kq w w3) := Kq.trans HKW (Lg.kq HL3)
        clear HE HBAD HGOOD HPK HFT HL3 HP3
        go_wp2_with fail
        refine bodyPost_ret (by simp [results, Try.results43, go_sem]; rfl) rfl ?_
        exact .inl ⟨HNT, rfl, KE⟩
      rw [dc_t hcan]
      have HEN := (show can (kts (lsp F i)) ⟨⟨k, m, gg, x, r⟩, ⟨k2, m2, g2, x2, r2⟩, t⟩ → ∀ W, _ from HE) hcan
      have HN : Hid (∀ j, j < i + 1 → pok F T j) := (show pok F T i → ∀ j, j < i + 1 → pok F T j from HGOOD) ((show pok F T i ↔ _ from HPK).2 ⟨hlt, htt, hcan⟩)
      have hft := (show lst F (i + 1) = t from HFT)
      clear HE HBAD HGOOD HPK HFT hcan
      unfold pv at HEN
      dsimp only at HEN
      obtain ⟨p0, p1, p2, p3, p4, p5, p6, p7, p8, p9, p10⟩ := (show Pb w3 wr.heap.size ⟨⟨k, m, gg, x, r⟩, ⟨k2, m2, g2, x2, r2⟩, t⟩ from HP3)
      dsimp only at p0 p1 p2 p3 p4 p5 p6 p7 p8 p9 p10
      go_wp2_with fail
      refine (HEN _ HL3).mono ?_
      rintro e w4 ⟨rfl, v2, hl4⟩
      have HR : Hid (Lg w1 B M (lsp F (i + 1)) v2 T w4 ∧ ∀ j, j < i + 1 → pok F T j) := (⟨hl4, HN⟩ : _ ∧ _)
      clear hl4 HN HL3 HP3 HEN p0 p1 p2 p3 p4 p5 p6 p7 p8 p9 p10
      go_wp2_with fail
      go_roundw
      case rel => first | exact ⟨i + 1, v2, by rw [hft], by go_num, by omega, HR⟩ | ((repeat apply Exists.intro); exact ⟨⟨i + 1, v2, by rw [hft], by go_num, by omega, HR⟩, rfl⟩)
      case measure => simp [intOf]; omega
    · obtain rfl : i = n := by omega
      have hX := (show Lg w1 B M (lsp F i) v' T wr ∧ ∀ j, j < i → pok F T j from HX)
      have hA := (show (0 < i → pa = some ⟨g, 0, none⟩ ∧ i ≤ ca) ∧ (∀ j, j < i → Cp w ⟨g, j * 11, none⟩ (F j)) ∧ Tb i F ∧ i ≤ 500 ∧ 0 ≤ T ∧ T ≤ 1000000000000 from HA)
      have HNT : Hid (tok i F T) := (⟨hA.2.2.2.1, hA.2.2.2.2.1, hA.2.2.2.2.2, hX.2⟩ : tok i F T)
      have HLE : Hid (Lg w B M (lsp F i) v' T wr) := hX.1.base (show Kq w w1 ∧ _ from HW1).1
      clear hA HA hX HX HW1 HS
      go_wp2_with fail
      refine bodyPost_ret (by simp [results, Try.results43, go_sem]; rfl) rfl ?_
      exact .inr ⟨HNT, B, M, v', rfl, HLE⟩
end Go.Proofs.Ytfpidccjcemcjaa
