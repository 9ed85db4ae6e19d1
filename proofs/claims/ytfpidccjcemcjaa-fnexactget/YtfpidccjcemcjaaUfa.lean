import Derived.Test.YtfpidccjcemcjaaUea
import Derived.Deep.RegionHeldLaw
namespace Go.Proofs.Ytfpidccjcemcjaa
open Go.ChangeShapes Go.WideShapes Go.ChangeAt Go.RowKit
set_option linter.unusedVariables false
set_option maxRecDepth 100000

/-- where a key stands -/
def At (n : Nat) (F : Nat → Pv) (v : Vv) (r : Int) : Prop := (r = -1 ∧ ∀ j, j < n → ¬ mk (F j).a = mk v) ∨ ∃ j : Nat, j < n ∧ r = (j : Int) ∧ mk (F j).a = mk v
set_option maxHeartbeats 8000000 in
theorem sp_at {v : Value} {g n : Nat} {F : Nat → Pv} (T : Int) (u : Vv) (w : World) (ha : OwnP w v g n F) (tb : Tb n F) (hks : ∀ i, i < n → kok (F i).a) (hu : kok u) (ub : Vb u) (hxu : (u.x.size : Int) ≤ 1048576) : Calls Try.prog 68 #[.agg #[v, .int .i64 T], vv u] w fun e w' => ∃ r : Int, e = .returned (.int .i64 r) ∧ At n F u r ∧ Kq w w' := by
  obtain ⟨pa, ca, rfl, ha2⟩ := ha.sl
  have hnI : (n : Int) ≤ 1048576 := by have := tb.len; omega
  have HA : Hid ((0 < n → pa = some ⟨g, 0, none⟩ ∧ n ≤ ca) ∧ (∀ i, i < n → Cp w ⟨g, i * 11, none⟩ (F i))) := (⟨ha2, ha.ce⟩ : _ ∧ _)
  have HSM : Hid (∀ j, j < n → ∀ w, Calls Try.prog 41 #[vv (F j).a, vv u] w fun e w' => e = .returned (.bool (dc (mk (F j).a = mk u))) ∧ Grown w w') := (fun j hj w => sp_same _ _ (hks j hj) hu (tb.a j hj) ub (tb.xa j hj) hxu w : ∀ j, j < n → ∀ w, _)
  have HAT : Hid (∀ r, At n F u r ↔ ((r = -1 ∧ ∀ j, j < n → ¬ mk (F j).a = mk u) ∨ ∃ j : Nat, j < n ∧ r = (j : Int) ∧ mk (F j).a = mk u)) := (fun r => Iff.rfl : ∀ r, _)
  generalize mk u = mu at HSM HAT
  generalize At n F u = Au at HAT ⊢
  clear tb hks hu ub hxu ha ha2
  obtain ⟨k, m, gg, x, r⟩ := u
  unfold vv at HSM ⊢
  dsimp only at HSM ⊢
  obtain ⟨w2, hw2⟩ : ∃ w2, w2 = (w.alloc (.cells #[.slice pa n ca, .int .i64 T] 40)).alloc (.cells #[.int .i64 k, .int .i64 m, .float .f64 gg, .string x, .int .i64 r] 26) := ⟨_, rfl⟩
  obtain ⟨x0, x1, z2, k2⟩ := two_new w _ _ _ _ w2 hw2
  have HW2 : Hid (Kq w w2 ∧ w2.heap[w.heap.size]? = some (.cells #[.slice pa n ca, .int .i64 T] 40 (0, 0)) ∧ w2.heap[w.heap.size + 1]? = some (.cells #[.int .i64 k, .int .i64 m, .float .f64 gg, .string x, .int .i64 r] 26 (0, 0)) ∧ w2.heap.size = w.heap.size + 2) := (⟨k2, x0, x1, z2⟩ : _ ∧ _ ∧ _ ∧ _)
  clear x0 x1 z2 k2
  have hst : ∀ (a : Addr) (n : Nat) (m : Mode) (w : World), (store a (.float .f64 n) m).run Try.prog w = stored Try.prog w a (.float .f64 n) m := fun a n m w => run_store _ _ _ _ _ rfl
  go_enter Try.func68, Try.ntmps68
  go_wp2_with fail
  rw [← hw2]
  clear hw2
  go_loopw [9] (fun s9 wr => ∃ j : Nat, s9 = .int .i64 (j : Int) ∧ j ≤ n ∧ Hid (Kq w2 wr ∧ ∀ j', j' < j → ¬ mk (F j').a = mu)) (fun s9 _ => n - (intOf s9).toNat)
  case atStart => exact ⟨0, rfl, Nat.zero_le _, (⟨Kq.refl _, fun j hj => by omega⟩ : _ ∧ _)⟩
  case round =>
    obtain ⟨j, rfl, hji, HY⟩ := hrel
    rcases Nat.lt_or_ge j n with hj | hj
    · have hA := (show (0 < n → pa = some ⟨g, 0, none⟩ ∧ n ≤ ca) ∧ (∀ i, i < n → Cp w ⟨g, i * 11, none⟩ (F i)) from HA)
      obtain ⟨rfl, hca⟩ := hA.1 (by omega)
      have hW := (show Kq w w2 ∧ w2.heap[w.heap.size]? = some (.cells #[.slice (some ⟨g, 0, none⟩) n ca, .int .i64 T] 40 (0, 0)) ∧ w2.heap[w.heap.size + 1]? = some (.cells #[.int .i64 k, .int .i64 m, .float .f64 gg, .string x, .int .i64 r] 26 (0, 0)) ∧ w2.heap.size = w.heap.size + 2 from HW2)
      have hY := (show Kq w2 wr ∧ ∀ j', j' < j → ¬ mk (F j').a = mu from HY)
      have hcj := (hA.2 j hj).kq (hW.1.trans hY.1)
      have hla := hcj.lt
      have b0 := hY.1.cell (cell_of hW.2.1 (j := 0) rfl)
      have p0 := hY.1.cell (cell_of hW.2.2.1 (j := 0) rfl)
      have p1 := hY.1.cell (cell_of hW.2.2.1 (j := 1) rfl)
      have p2 := hY.1.cell (cell_of hW.2.2.1 (j := 2) rfl)
      have p3 := hY.1.cell (cell_of hW.2.2.1 (j := 3) rfl)
      have p4 := hY.1.cell (cell_of hW.2.2.1 (j := 4) rfl)
      have hsz := hY.1.size
      have hz2 := hW.2.2.2
      obtain ⟨a0, a1, a2, a3, a4, a5, a6, a7, a8, a9, a10⟩ := hcj
      have heq := (show ∀ j, j < n → ∀ w, _ from HSM) j hj
      dsimp only at heq a0 a1 a2 a3 a4 a5 a6 a7 a8 a9 a10 hla
      have HKEEP : Hid (∀ (W0 W' : World), Kq W0 W' → W0.heap = wr.heap → (W'.cell? ⟨w.heap.size, 0, none⟩ = some (.slice (some ⟨g, 0, none⟩) n ca) ∧ W'.cell? ⟨g, j * 11, none⟩ = some (.int .i64 (F j).a.k) ∧ W'.cell? ⟨g, j * 11 + 1, none⟩ = some (.int .i64 (F j).a.m) ∧ W'.cell? ⟨g, j * 11 + 2, none⟩ = some (.float .f64 (F j).a.g) ∧ W'.cell? ⟨g, j * 11 + 3, none⟩ = some (.string (F j).a.x) ∧ W'.cell? ⟨g, j * 11 + 4, none⟩ = some (.int .i64 (F j).a.r) ∧ W'.cell? ⟨w.heap.size + 1, 0, none⟩ = some (.int .i64 k) ∧ W'.cell? ⟨w.heap.size + 1, 1, none⟩ = some (.int .i64 m) ∧ W'.cell? ⟨w.heap.size + 1, 2, none⟩ = some (.float .f64 gg) ∧ W'.cell? ⟨w.heap.size + 1, 3, none⟩ = some (.string x) ∧ W'.cell? ⟨w.heap.size + 1, 4, none⟩ = some (.int .i64 r))) := by
        show ∀ (W0 W' : World), _
        intro W0 W' hb he
        have ea : ∀ b, b < wr.heap.size → ∀ j, W'.cell? ⟨b, j, none⟩ = wr.cell? ⟨b, j, none⟩ := fun b hbb j => World.cell?_of_block (by rw [hb.block b (by rw [he]; exact hbb), he])
        simp only [ea g hla, ea w.heap.size (by omega), ea (w.heap.size + 1) (by omega)]
        exact ⟨b0, a0, a1, a2, a3, a4, p0, p1, p2, p3, p4⟩
      have HY2 : Hid (Kq w2 wr ∧ ∀ j', j' < j → ¬ mk (F j').a = mu) := hY
      have HKW : Hid (Kq w w2) := hW.1
      have hjn : (j : Int) < (n : Int) := by omega
      clear HY hY hA hW HW2 HSM hla hsz hz2 a5 a6 a7 a8 a9 a10
      go_wp2_with fail
      go_region_held_law (fun W' => W'.cell? ⟨w.heap.size, 0, none⟩ = some (.slice (some ⟨g, 0, none⟩) n ca) ∧ W'.cell? ⟨g, j * 11, none⟩ = some (.int .i64 (F j).a.k) ∧ W'.cell? ⟨g, j * 11 + 1, none⟩ = some (.int .i64 (F j).a.m) ∧ W'.cell? ⟨g, j * 11 + 2, none⟩ = some (.float .f64 (F j).a.g) ∧ W'.cell? ⟨g, j * 11 + 3, none⟩ = some (.string (F j).a.x) ∧ W'.cell? ⟨g, j * 11 + 4, none⟩ = some (.int .i64 (F j).a.r) ∧ W'.cell? ⟨w.heap.size + 1, 0, none⟩ = some (.int .i64 k) ∧ W'.cell? ⟨w.heap.size + 1, 1, none⟩ = some (.int .i64 m) ∧ W'.cell? ⟨w.heap.size + 1, 2, none⟩ = some (.float .f64 gg) ∧ W'.cell? ⟨w.heap.size + 1, 3, none⟩ = some (.string x) ∧ W'.cell? ⟨w.heap.size + 1, 4, none⟩ = some (.int .i64 r)) (first | exact ⟨b0, a0, a1, a2, a3, a4, p0, p1, p2, p3, p4⟩ | exact (show ∀ (W0 W' : World), _ from HKEEP) _ _ (Kq.of_grown hb5) rfl) ((go_at_call 41; refine (heq _).mono ?_; rintro e w5 ⟨rfl, hb5⟩))
      all_goals
        have hY := (show Kq w2 wr ∧ ∀ j', j' < j → ¬ mk (F j').a = mu from HY2)
        have K5 : Kq w2 w5 := hY.1.trans (Kq.trans (Kq.drew (Kq.refl _)) (Kq.of_grown hb5))
        by_cases hm : mk (F j).a = mu
        · rw [dc_t hm]
          have HE : Hid (Au (j : Int) ∧ Kq w w5) := (⟨((show ∀ r, _ from HAT) (j : Int)).2 (.inr ⟨j, hj, rfl, hm⟩), Kq.trans HKW K5⟩ : _ ∧ _)
          clear HKEEP hb5 HY2 hY K5 HAT heq HKW b0 a0 a1 a2 a3 a4 p0 p1 p2 p3 p4
          go_wp2_with fail
          go_ret
          exact ⟨(j : Int), rfl, (show Au (j : Int) ∧ Kq w w5 from HE).1, (show Au (j : Int) ∧ Kq w w5 from HE).2⟩
        · rw [dc_f hm]
          have HN : Hid (Kq w2 w5 ∧ ∀ j', j' < j + 1 → ¬ mk (F j').a = mu) := (⟨K5, fun j' hj' => by
            by_cases e : j' = j
            · subst e; exact hm
            · exact hY.2 j' (by omega)⟩ : _ ∧ _)
          clear HKEEP hb5 HY2 hY K5 HAT heq HKW b0 a0 a1 a2 a3 a4 p0 p1 p2 p3 p4
          go_wp2_with fail
          go_roundw
          case rel => first | exact ⟨j + 1, by go_num, by omega, HN⟩ | ((repeat apply Exists.intro); exact ⟨⟨j + 1, by go_num, by omega, HN⟩, rfl⟩)
          case measure => simp [intOf]; omega
    · obtain rfl : j = n := by omega
      have hY := (show Kq w2 wr ∧ ∀ j', j' < j → ¬ mk (F j').a = mu from HY)
      have HE : Hid (Au (-1) ∧ Kq w wr) := (⟨((show ∀ r, _ from HAT) (-1)).2 (.inl ⟨rfl, hY.2⟩), (show Kq w w2 ∧ _ from HW2).1.trans hY.1⟩ : _ ∧ _)
      clear HY hY HSM HAT HW2 HA
      go_wp2_with fail
      go_ret
      exact ⟨-1, rfl, (show Au (-1) ∧ Kq w wr from HE).1, (show Au (-1) ∧ Kq w wr from HE).2⟩
/-- an int as a key -/
def ki (z : Int) : Vv := ⟨2, z, 0, ⟨#[]⟩, 0⟩
theorem nil_bytes : (⟨#[]⟩ : ByteArray).toList = [] := by rw [ByteArray.toList_eq]
theorem kok_ki (z : Int) : kok (ki z) := by
  refine ⟨?_, by show ¬ (2 : Int) = 0; omega, fun h => by have : (2 : Int) = 3 := h; omega⟩
  rw [vok2 rfl]
  refine ⟨⟨.inl rfl, .inr ?_, .inr nil_bytes, .inr rfl⟩, trivial⟩
  show FloatKind.f64.format.order 0 0 = some .eq
  decide
theorem mk_ki (v : Vv) (hk : kok v) (z : Int) : mk v = mk (ki z) ↔ v.k = 2 ∧ v.m = z := by
  unfold mk ki
  constructor
  · intro h
    have h1 := congrArg Mk.k h
    have h2 := congrArg Mk.n h
    dsimp only at h1 h2
    rw [if_neg (by omega), if_neg (by omega)] at h2
    exact ⟨h1, h2⟩
  · rintro ⟨h1, h2⟩
    have z1 := (vok2 h1).1 hk.1
    unfold zr at z1
    simp at z1
    have hx : v.x.toList = ([] : List UInt8) := by simpa using z1.2.1
    dsimp only
    rw [if_neg (by omega), if_neg (by omega), h1, h2, hx, z1.2.2, nil_bytes]
/-- how many keys are ints above c -/
noncomputable def cg (F : Nat → Pv) (c : Int) : Nat → Nat
  | 0 => 0
  | j + 1 => cg F c j + (if dc ((F j).a.k = 2 ∧ c < (F j).a.m) then 1 else 0)
theorem cg_le (F : Nat → Pv) (c : Int) : ∀ n, cg F (c + 1) n ≤ cg F c n
  | 0 => Nat.le_refl _
  | j + 1 => by
    unfold cg
    have := cg_le F c j
    by_cases h : (F j).a.k = 2 ∧ c + 1 < (F j).a.m
    · rw [dc_t h, dc_t (show (F j).a.k = 2 ∧ c < (F j).a.m from ⟨h.1, by omega⟩)]
      omega
    · rw [dc_f h]
      simp only [Bool.false_eq_true, if_false]
      omega
theorem cg_lt (F : Nat → Pv) (c : Int) : ∀ n j, j < n → (F j).a.k = 2 → (F j).a.m = c + 1 → cg F (c + 1) n + 1 ≤ cg F c n
  | 0, j, h, _, _ => by omega
  | i + 1, j, h, h1, h2 => by
    unfold cg
    by_cases e : j = i
    · subst e
      have := cg_le F c j
      rw [dc_f (show ¬ ((F j).a.k = 2 ∧ c + 1 < (F j).a.m) from fun q => by omega), dc_t (show (F j).a.k = 2 ∧ c < (F j).a.m from ⟨h1, by omega⟩)]
      simp only [Bool.false_eq_true, if_false, if_true]
      omega
    · have := cg_lt F c i j (by omega) h1 h2
      by_cases h : (F i).a.k = 2 ∧ c + 1 < (F i).a.m
      · rw [dc_t h, dc_t (show (F i).a.k = 2 ∧ c < (F i).a.m from ⟨h.1, by omega⟩)]
        omega
      · rw [dc_f h]
        simp only [Bool.false_eq_true, if_false]
        omega
theorem cg_n (F : Nat → Pv) (c : Int) : ∀ n, cg F c n ≤ n
  | 0 => Nat.le_refl _
  | j + 1 => by
    unfold cg
    have := cg_n F c j
    split <;> omega
/-- an int stands among the keys -/
def hasI (n : Nat) (F : Nat → Pv) (z : Int) : Prop := ∃ j, j < n ∧ mk (F j).a = mk (ki z)
/-- the length of a table -/
def Ln (n : Nat) (F : Nat → Pv) (c : Int) : Prop := 0 ≤ c ∧ (∀ i : Int, 1 ≤ i → i ≤ c → hasI n F i) ∧ ¬ hasI n F (c + 1)
theorem Ln.uniq {n : Nat} {F : Nat → Pv} {c d : Int} (h : Ln n F c) (g : Ln n F d) : c = d := by
  rcases Int.lt_trichotomy c d with q | q | q
  · exact absurd (g.2.1 (c + 1) (by have := h.1; omega) (by omega)) h.2.2
  · exact q
  · exact absurd (h.2.1 (d + 1) (by have := g.1; omega) (by omega)) g.2.2
end Go.Proofs.Ytfpidccjcemcjaa
