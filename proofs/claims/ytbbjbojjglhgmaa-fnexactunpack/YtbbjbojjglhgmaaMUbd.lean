import Derived.Test.YtbbjbojjglhgmaaMUbb
import Derived.Test.YtbbjbojjglhgmaaMGee
namespace Go.Proofs.Ytbbjbojjglhgmaa.Fo
open Go.ChangeShapes Go.WideShapes Go.ChangeAt Go.RowKit
set_option linter.unusedVariables false
set_option maxRecDepth 100000
/-- all that is known of a row of one's own -/
theorem own_all {w : World} {B : Nat} {e : TypeId} {s n : Nat} {v : Value} {xs : List Value} (h : w.ownsRow B e s v n xs) (hn : 0 < n) : ∃ g cap, v = .slice (some ⟨g, 0, none⟩) n cap ∧ B ≤ g ∧ g < w.heap.size ∧ n ≤ cap ∧ (∀ j, j < n * s → w.cell? ⟨g, j, none⟩ = xs[j]?) ∧ ∀ j, w.frozen? ⟨g, j, none⟩ = false := by
  rcases h.2 with ⟨_, h0⟩ | ⟨g, cap, cur, hv, hb, hg, hc, _⟩
  · omega
  · rw [hv] at h
    exact ⟨g, cap, hv, hb, (Array.getElem?_eq_some_iff.1 hg).1, hc, fun j hj => h.cellAt j hj, fun j => frozen_of hg⟩
theorem owg_of9 {B : Nat} {w : World} {v : Value} {L : List TV} (h : w.ownsRow B 93 2 v L.length (L.flatMap tvc)) (ho : OwnT B w L v.ownBlock) : ∃ g V G, OwG B w.heap.size w v L.length (fun i => (TF (L.map (·.1)) i).c) g V G := by
  obtain ⟨lo, hi, h1, h2, h3⟩ := ho
  have hF : ∀ i (z : TV), L[i]? = some z → (TF (L.map (·.1)) i).c = z.1.2.length := fun i z hz => by
    unfold TF
    simp [List.getD, hz]
    rfl
  rcases Nat.eq_zero_or_pos L.length with h0 | hn
  · obtain ⟨ad, cap, hv⟩ := own_shape h
    exact ⟨0, fun _ => .slice none 0 0, fun _ => 0, ⟨ad, cap, hv, fun q => by omega⟩, fun q => by omega, fun i hi => by omega, fun i hi => by omega, fun q => by omega, fun i hi => by omega, fun i hi => by omega, fun i j hi => by omega⟩
  obtain ⟨g, cap, rfl, hB, hg, hcap, hce, hfz⟩ := own_all h hn
  have key : ∀ i, i < L.length → ∃ z : TV, L[i]? = some z ∧ L.getD i ((0, []), .slice none 0 0) = z := fun i hi => ⟨L[i], List.getElem?_eq_getElem hi, by simp [List.getD, List.getElem?_eq_getElem hi]⟩
  refine ⟨g, fun i => (L.getD i ((0, []), .slice none 0 0)).2, fun i => ((L.getD i ((0, []), .slice none 0 0)).2.ownBlock).getD 0, ⟨_, _, rfl, fun _ => ⟨rfl, hcap⟩⟩, fun _ => ⟨hB, hg⟩, fun i hi => ?_, fun i hi => ?_, fun _ j => hfz j, fun i hi => ?_, fun i hi hc => ?_, fun i j hi hj hij hc hd => ?_⟩
  · obtain ⟨z, hz, _⟩ := key i hi
    have := fm_at9 (cl := tvc) (wd := 2) (fun _ => rfl) hz 0 (by omega)
    exact ⟨_, (hce (i * 2) (by omega)).trans this⟩
  · obtain ⟨z, hz, e⟩ := key i hi
    have := fm_at9 (cl := tvc) (wd := 2) (fun _ => rfl) hz 1 (by omega)
    rw [e]
    exact (hce (i * 2 + 1) (by omega)).trans this
  · obtain ⟨z, hz, e⟩ := key i hi
    obtain ⟨q1, q2, q3, q4⟩ := h1 i z hz
    show OwV w (L.getD i ((0, []), .slice none 0 0)).2 _ (TF (L.map (·.1)) i).c
    rw [hF i z hz, e]
    obtain ⟨ad, c', hv⟩ := own_shape q3
    refine ⟨ad, c', hv, fun hc => ?_⟩
    obtain ⟨g', cap', hv', _, _, hcc, hce', hfz'⟩ := own_all q3 hc
    rw [hv] at hv'
    obtain ⟨rfl, _, rfl⟩ := (Value.slice.injEq _ _ _ _ _ _).mp hv'
    have e2 : (z.2.ownBlock).getD 0 = g' := by rw [hv]; rfl
    rw [e2]
    refine ⟨rfl, hcc, fun j hj => ?_, hfz'⟩
    have hl : j < (z.1.2.flatMap glc).length := by rw [q3.1]; exact hj
    exact ⟨_, (hce' j hj).trans (List.getElem?_eq_getElem hl)⟩
  · obtain ⟨z, hz, e⟩ := key i hi
    obtain ⟨q1, q2, q3, q4⟩ := h1 i z hz
    have hc' : 0 < z.1.2.length := by rw [← hF i z hz]; exact hc
    obtain ⟨g', cap', hv', y1, y2, _⟩ := own_all q3 hc'
    have e2 : ((L.getD i ((0, []), .slice none 0 0)).2.ownBlock).getD 0 = g' := by rw [e, hv']; rfl
    rw [e2]
    have y3 := q4 g' (by rw [hv']; rfl)
    refine ⟨by omega, by omega, fun e3 => ?_⟩
    exact h3 g i rfl hi ⟨by omega, by omega⟩
  · obtain ⟨z, hz, e⟩ := key i hi
    obtain ⟨z', hz', e'⟩ := key j hj
    obtain ⟨q1, q2, q3, q4⟩ := h1 i z hz
    obtain ⟨r1, r2, r3, r4⟩ := h1 j z' hz'
    have hc' : 0 < z.1.2.length := by rw [← hF i z hz]; exact hc
    have hd' : 0 < z'.1.2.length := by rw [← hF j z' hz']; exact hd
    obtain ⟨g', _, hv', y1, y2, _⟩ := own_all q3 hc'
    obtain ⟨g'', _, hv'', x1, x2, _⟩ := own_all r3 hd'
    have y3 := q4 g' (by rw [hv']; rfl)
    have x3 := r4 g'' (by rw [hv'']; rfl)
    show ((L.getD i ((0, []), .slice none 0 0)).2.ownBlock).getD 0 ≠ ((L.getD j ((0, []), .slice none 0 0)).2.ownBlock).getD 0
    rw [e, e', hv', hv'']
    show g' ≠ g''
    rcases Nat.lt_or_gt_of_ne hij with q | q
    · have := h2 i j q hj; omega
    · have := h2 j i q hi; omega
set_option maxHeartbeats 8000000 in
theorem eq_unp {ok : Bool} {a : Gv} {v v' : Value} {n : Nat} {F : Nat → Td} (w : World) (ha : RowT 0 w v n F) (hv : RowT 0 w v' n F) (hb : Bg n F a) :
    Calls Try.prog 18 #[.agg #[.bool ok, .int .i64 a.k, .int .i64 a.m, .string a.x, .int .i64 a.r, v], .agg #[.bool ok, .int .i64 a.k, .int .i64 a.m, .string a.x, .int .i64 a.r, v']] w fun e w' => e = .returned (.bool true) ∧ Kb 0 w w' := by
  obtain ⟨w2, hw2⟩ : ∃ w2, w2 = (w.alloc (.cells #[.bool ok, .int .i64 a.k, .int .i64 a.m, .string a.x, .int .i64 a.r, v] 29)).alloc (.cells #[.bool ok, .int .i64 a.k, .int .i64 a.m, .string a.x, .int .i64 a.r, v'] 29) := ⟨_, rfl⟩
  have k2 : Kb 0 w w2 := by rw [hw2]; exact kb_alloc2 _ _ _ _
  have bp : w2.heap[w.heap.size]? = some (.cells #[.bool ok, .int .i64 a.k, .int .i64 a.m, .string a.x, .int .i64 a.r, v] 29 (0, 0)) := by
    rw [hw2, (kb_alloc 0 _ _).block _ (Nat.zero_le _) (by rw [World.size_alloc]; omega)]
    exact alloc_new _ _ _
  have bq : w2.heap[w.heap.size + 1]? = some (.cells #[.bool ok, .int .i64 a.k, .int .i64 a.m, .string a.x, .int .i64 a.r, v'] 29 (0, 0)) := by
    have e : (w.alloc (.cells #[.bool ok, .int .i64 a.k, .int .i64 a.m, .string a.x, .int .i64 a.r, v] 29)).heap.size = w.heap.size + 1 := World.size_alloc _ _
    rw [hw2, ← e]
    exact alloc_new _ _ _
  have p0 : w2.cell? ⟨w.heap.size, 0, none⟩ = some (.bool ok) := cell_of bp rfl
  have p1 : w2.cell? ⟨w.heap.size, 1, none⟩ = some (.int .i64 a.k) := cell_of bp rfl
  have p2 : w2.cell? ⟨w.heap.size, 2, none⟩ = some (.int .i64 a.m) := cell_of bp rfl
  have p3 : w2.cell? ⟨w.heap.size, 3, none⟩ = some (.string a.x) := cell_of bp rfl
  have p4 : w2.cell? ⟨w.heap.size, 4, none⟩ = some (.int .i64 a.r) := cell_of bp rfl
  have p5 : w2.cell? ⟨w.heap.size, 5, none⟩ = some (v) := cell_of bp rfl
  have q0 : w2.cell? ⟨w.heap.size + 1, 0, none⟩ = some (.bool ok) := cell_of bq rfl
  have q1 : w2.cell? ⟨w.heap.size + 1, 1, none⟩ = some (.int .i64 a.k) := cell_of bq rfl
  have q2 : w2.cell? ⟨w.heap.size + 1, 2, none⟩ = some (.int .i64 a.m) := cell_of bq rfl
  have q3 : w2.cell? ⟨w.heap.size + 1, 3, none⟩ = some (.string a.x) := cell_of bq rfl
  have q4 : w2.cell? ⟨w.heap.size + 1, 4, none⟩ = some (.int .i64 a.r) := cell_of bq rfl
  have q5 : w2.cell? ⟨w.heap.size + 1, 5, none⟩ = some (v') := cell_of bq rfl
  have HE := eq_graph (a := a) w2 (ha.keep k2) (hv.keep k2) hb
  unfold grv at HE
  obtain ⟨pv, cv, rfl, _⟩ := ha
  obtain ⟨pw, cw, rfl, _⟩ := hv
  have hok : (ok != ok) = false := by cases ok <;> rfl
  have HW2 : Hid (w2 = _) := hw2
  have HK : Hid (Kb 0 w w2) := k2
  clear hw2 k2 bp bq hb
  go_enter Try.func18, Try.ntmps18
  go_upto_region 1 with fail
  rw [← (show w2 = _ from HW2)]
  clear HW2
  go_wp2_with fail
  refine HE.mono ?_
  rintro e w3 ⟨rfl, k3⟩
  have HF : Hid (Kb 0 w w3) := (show Kb 0 w w2 from HK).trans k3
  clear HE HK k3 p0 p1 p2 p3 p4 p5 q0 q1 q2 q3 q4 q5
  go_wp2_with fail
  go_ret
  exact ⟨rfl, HF⟩
set_option maxHeartbeats 8000000 in
theorem mark_unp {L H : Nat} {ok : Bool} {a : Gv} {v : Value} {n : Nat} {c : Nat → Nat} {g : Nat} {V : Nat → Value} {G : Nat → Nat} (w : World) (k : Int) (h : OwG L H w v n c g V G) (hH : H ≤ w.heap.size) (hn : n ≤ 1048576) (hc : ∀ i, i < n → c i ≤ 1048576) (hk1 : 1 ≤ k) (hsm : k + (sm (fun i => 1 + 4 * c i) n : Int) ≤ 200000000) :
    Calls Try.prog 21 #[.agg #[.bool ok, .int .i64 a.k, .int .i64 a.m, .string a.x, .int .i64 a.r, v], .int .i64 k] w fun e w' => e = .returned (.int .i64 (k + (sm (fun i => 1 + 4 * c i) n : Int))) ∧ Kq (fun q => L ≤ q ∧ q < H) w w' ∧ MdG L H w' v n c g V G k := by
  obtain ⟨w2, hw2⟩ : ∃ w2, w2 = w.alloc (.cells #[.bool ok, .int .i64 a.k, .int .i64 a.m, .string a.x, .int .i64 a.r, v] 29) := ⟨_, rfl⟩
  have k2 : Kb 0 w w2 := by rw [hw2]; exact kb_alloc _ _ _
  have kq2 : Kq (fun q => L ≤ q ∧ q < H) w w2 := by rw [hw2]; exact kq_alloc _ _ _
  have bp : w2.heap[w.heap.size]? = some (.cells #[.bool ok, .int .i64 a.k, .int .i64 a.m, .string a.x, .int .i64 a.r, v] 29 (0, 0)) := by rw [hw2]; exact alloc_new _ _ _
  have p0 : w2.cell? ⟨w.heap.size, 0, none⟩ = some (.bool ok) := cell_of bp rfl
  have p1 : w2.cell? ⟨w.heap.size, 1, none⟩ = some (.int .i64 a.k) := cell_of bp rfl
  have p2 : w2.cell? ⟨w.heap.size, 2, none⟩ = some (.int .i64 a.m) := cell_of bp rfl
  have p3 : w2.cell? ⟨w.heap.size, 3, none⟩ = some (.string a.x) := cell_of bp rfl
  have p4 : w2.cell? ⟨w.heap.size, 4, none⟩ = some (.int .i64 a.r) := cell_of bp rfl
  have p5 : w2.cell? ⟨w.heap.size, 5, none⟩ = some (v) := cell_of bp rfl
  have HM := mark_graph (a := a) w2 k (h.block (fun q _ hq => k2.block q (Nat.zero_le _) (by omega))) (by have := k2.size; omega) hn hc hk1 hsm
  obtain ⟨pv, cv, rfl, _⟩ := h.sl
  unfold grv at HM
  have HW2 : Hid (w2 = _) := hw2
  have HK : Hid (Kb 0 w w2 ∧ Kq (fun q => L ≤ q ∧ q < H) w w2) := (⟨k2, kq2⟩ : _ ∧ _)
  clear hw2 k2 kq2 bp h hc hsm hH
  go_enter Try.func21, Try.ntmps21
  go_upto_region 1 with fail
  rw [← (show w2 = _ from HW2)]
  clear HW2
  go_wp2_with fail
  refine HM.mono ?_
  rintro e w3 ⟨rfl, k3, m3⟩
  have HF : Hid (Kq (fun q => L ≤ q ∧ q < H) w w3 ∧ MdG L H w3 (.slice pv n cv) n c g V G k) := (⟨(show _ ∧ _ from HK).2.trans k3, m3⟩ : _ ∧ _)
  clear HM HK k3 m3 p0 p1 p2 p3 p4 p5
  go_wp2_with fail
  go_ret
  exact ⟨rfl, HF⟩
set_option maxHeartbeats 8000000 in
theorem held_unp {L H : Nat} {ok : Bool} {a : Gv} {v : Value} {n : Nat} {c : Nat → Nat} {g : Nat} {V : Nat → Value} {G : Nat → Nat} (w : World) (k : Int) (h : MdG L H w v n c g V G k) (hH : H ≤ w.heap.size) (hn : n ≤ 1048576) (hc : ∀ i, i < n → c i ≤ 1048576) (hk1 : 1 ≤ k) (hsm : k + (sm (fun i => 1 + 4 * c i) n : Int) ≤ 200000000) :
    Calls Try.prog 22 #[.agg #[.bool ok, .int .i64 a.k, .int .i64 a.m, .string a.x, .int .i64 a.r, v], .int .i64 k] w fun e w' => e = .returned (.int .i64 (k + (sm (fun i => 1 + 4 * c i) n : Int))) ∧ Kb 0 w w' := by
  obtain ⟨w2, hw2⟩ : ∃ w2, w2 = w.alloc (.cells #[.bool ok, .int .i64 a.k, .int .i64 a.m, .string a.x, .int .i64 a.r, v] 29) := ⟨_, rfl⟩
  have k2 : Kb 0 w w2 := by rw [hw2]; exact kb_alloc _ _ _
  have kq2 : Kq (fun q => L ≤ q ∧ q < H) w w2 := by rw [hw2]; exact kq_alloc _ _ _
  have bp : w2.heap[w.heap.size]? = some (.cells #[.bool ok, .int .i64 a.k, .int .i64 a.m, .string a.x, .int .i64 a.r, v] 29 (0, 0)) := by rw [hw2]; exact alloc_new _ _ _
  have p0 : w2.cell? ⟨w.heap.size, 0, none⟩ = some (.bool ok) := cell_of bp rfl
  have p1 : w2.cell? ⟨w.heap.size, 1, none⟩ = some (.int .i64 a.k) := cell_of bp rfl
  have p2 : w2.cell? ⟨w.heap.size, 2, none⟩ = some (.int .i64 a.m) := cell_of bp rfl
  have p3 : w2.cell? ⟨w.heap.size, 3, none⟩ = some (.string a.x) := cell_of bp rfl
  have p4 : w2.cell? ⟨w.heap.size, 4, none⟩ = some (.int .i64 a.r) := cell_of bp rfl
  have p5 : w2.cell? ⟨w.heap.size, 5, none⟩ = some (v) := cell_of bp rfl
  have HM := held_graph (a := a) w2 k (h.block (fun q _ hq => k2.block q (Nat.zero_le _) (by omega))) (by have := k2.size; omega) hn hc hk1 hsm
  obtain ⟨pv, cv, rfl, _⟩ := h.sl
  unfold grv at HM
  have hx : ¬ k + (sm (fun i => 1 + 4 * c i) n : Int) < 0 := by omega
  obtain ⟨K, hK⟩ : ∃ K, K = k + (sm (fun i => 1 + 4 * c i) n : Int) := ⟨_, rfl⟩
  rw [← hK] at HM hx ⊢
  have HW2 : Hid (w2 = _) := hw2
  have HK : Hid (Kb 0 w w2 ∧ Kq (fun q => L ≤ q ∧ q < H) w w2) := (⟨k2, kq2⟩ : _ ∧ _)
  clear hw2 k2 kq2 bp h hc hsm hH hK
  go_enter Try.func22, Try.ntmps22
  go_upto_region 1 with fail
  rw [← (show w2 = _ from HW2)]
  clear HW2
  go_wp2_with fail
  refine HM.mono ?_
  rintro e w3 ⟨rfl, k3⟩
  have HF : Hid (Kb 0 w w3) := (show _ ∧ _ from HK).1.trans k3
  clear HM HK k3 p0 p1 p2 p3 p4 p5
  go_wp2_with fail
  go_ret
  exact ⟨rfl, HF⟩
end Go.Proofs.Ytbbjbojjglhgmaa.Fo

namespace Go.Proofs.Ytbbjbojjglhgmaa.Fo
open Go.ChangeShapes Go.WideShapes Go.ChangeAt Go.RowKit
set_option linter.unusedVariables false
set_option maxRecDepth 100000
set_option maxHeartbeats 4000000 in
theorem to_byts2 {va : Value} {n : Nat} {A : Nat → Int} (w : World) (ha : RowV w va n (fun i => .int .u8 (A i))) (hn : n ≤ 1048576) :
    Calls Try.prog 16 #[va] w fun e w' => ∃ c', e = .returned (.slice (some ⟨w.heap.size, 0, none⟩) n c') ∧ n ≤ c' ∧ OwnR w' (.slice (some ⟨w.heap.size, 0, none⟩) n c') w.heap.size n (fun i => .int .u8 (A i)) ∧ Below w.heap.size w w' ∧ w.heap.size < w'.heap.size := by
  obtain ⟨pa, ca, rfl, ha2⟩ := ha
  have hnI : (n : Int) ≤ 1048576 := by omega
  have hmk := run_make (P := Try.prog) w 22 5 Try.t5 (.int .u8 0) Try.underlying22 (by kernel_rfl) (by kernel_rfl) .i64 .i64 (n : Int) (n : Int) (by omega) (Int.le_refl _) (by show (1 : Int) * (n : Int) ≤ _; omega) (by omega)
  rw [Int.toNat_natCast] at hmk
  obtain ⟨w1, hw1⟩ : ∃ w1, w1 = w.alloc (.cells (madeCells (.int .u8 0 : Value).cells (n * Try.t5.size)) 5) := ⟨_, rfl⟩
  rw [← hw1] at hmk
  have c1 : ∀ j, j < n → w1.cell? ⟨w.heap.size, j, none⟩ = some (.int .u8 0) := by intro j hj; rw [hw1]; exact made_cell w _ 5 n rfl j hj
  have f1 : ∀ j, w1.frozen? ⟨w.heap.size, j, none⟩ = false := by intro j; rw [hw1]; exact made_fz _ _ _ _
  have b1 : Below w.heap.size w w1 := by rw [hw1]; exact (Below.refl _ w).alloc (Nat.le_refl _) _
  have l1 : w.heap.size < w1.heap.size := by rw [hw1]; simp
  have HI0 : Hid (MkR w1 w.heap.size n (fun _ => .int .u8 0) (fun i => .int .u8 (A i)) 0 w1) := (⟨Kq.refl _ _, fun i hi => by omega, fun i _ hi => c1 i hi, f1⟩ : MkR w1 w.heap.size n _ _ 0 w1)
  have HA : Hid ((0 < n → ∃ a : Addr, pa = some a ∧ n ≤ ca ∧ ∀ i, i < n → w.cell? (a.add i) = some (.int .u8 (A i))) ∧ Below w.heap.size w w1 ∧ w.heap.size < w1.heap.size) := (⟨ha2, b1, l1⟩ : _ ∧ _ ∧ _)
  clear ha2 b1 c1 f1 hw1 hn l1
  obtain ⟨G, hG⟩ : ∃ G, G = w.heap.size := ⟨_, rfl⟩
  rw [← hG] at hmk HI0 ⊢
  have HG : Hid (G = w.heap.size) := hG
  clear hG
  go_enter Try.func16, Try.ntmps16
  go_wp2_with fail
  go_loopw [4] (fun s4 wr => ∃ i : Nat, s4 = .int .i64 (i : Int) ∧ i ≤ n ∧ Hid (MkR w1 G n (fun _ => .int .u8 0) (fun i => .int .u8 (A i)) i wr)) (fun s4 _ => n - (intOf s4).toNat)
  case atStart => exact ⟨0, rfl, Nat.zero_le _, HI0⟩
  case round =>
    clear HI0 hmk
    obtain ⟨i, rfl, hin, HI⟩ := hrel
    have hI := (show MkR w1 G n (fun _ => .int .u8 0) (fun i => .int .u8 (A i)) i wr from HI)
    have hA := (show (0 < n → ∃ a : Addr, pa = some a ∧ n ≤ ca ∧ ∀ i, i < n → w.cell? (a.add i) = some (.int .u8 (A i))) ∧ Below w.heap.size w w1 ∧ w.heap.size < w1.heap.size from HA)
    rcases Nat.lt_or_ge i n with hi | hi
    · have hiI : (i : Int) < (n : Int) := by omega
      obtain ⟨a, rfl, hca, hra⟩ := hA.1 (by omega)
      have q0 := hra i hi
      have hl := lt_of_cell' q0
      have qa : wr.cell? (a.add i) = some (.int .u8 (A i)) := by
        rw [World.cell?_of_block (w := w1) (hI.kq.block _ (Nat.lt_of_lt_of_le hl hA.2.1.size) (by rw [show G = w.heap.size from HG]; omega)), hA.2.1.cell hl]
        exact q0
      obtain ⟨c, f, hM⟩ := hI.step hi (Below.refl _ _)
      have HM : Hid (MkR w1 G n (fun _ => .int .u8 0) (fun i => .int .u8 (A i)) (i + 1) (wr.setCell ⟨G, i, none⟩ (.int .u8 (A i)))) := hM
      clear hM hI HI hin hA HA hra q0 hl HG
      generalize A i = y at qa HM
      go_wp2_with fail
      go_roundw
      case rel => exact ⟨i + 1, by go_num, by omega, HM⟩
      case measure => simp [intOf]; omega
    · obtain rfl : i = n := by omega
      have HE : Hid (MkR w1 G i (fun _ => .int .u8 0) (fun i => .int .u8 (A i)) i wr ∧ Below w.heap.size w w1 ∧ G = w.heap.size ∧ w.heap.size < w1.heap.size) := (⟨hI, hA.2.1, HG, hA.2.2⟩ : _ ∧ _ ∧ _ ∧ _)
      clear HI hI hA HA HG
      go_wp2_with fail
      go_ret
      obtain ⟨hE, hB, rfl, hL⟩ := (show MkR w1 G i (fun _ => .int .u8 0) (fun i => .int .u8 (A i)) i wr ∧ Below w.heap.size w w1 ∧ G = w.heap.size ∧ w.heap.size < w1.heap.size from HE)
      refine ⟨_, rfl, Nat.le_refl _, ⟨⟨_, _, rfl, fun _ => ⟨rfl, Nat.le_refl _⟩⟩, fun j hj => hE.don j hj, fun _ j => hE.fz j⟩, ?_, Nat.lt_of_lt_of_le hL hE.kq.size⟩
      exact ⟨hE.kq.os.trans hB.os, hE.kq.tape.trans hB.tape, hE.kq.output.trans hB.output, Nat.le_trans hB.size hE.kq.size, fun k hk => (hE.kq.block k (Nat.lt_of_lt_of_le hk hB.size) (by omega)).trans (hB.block k hk)⟩
theorem Kb.mkd {a w w' : World} {b : Nat} {S : Nat → Prop} (h : Kb b a w) (k : Kq S w w') (hS : ∀ q, S q → q < b ∨ a.heap.size ≤ q) : Kb b a w' :=
  ⟨k.os.trans h.os, k.output.trans h.output, Nat.le_trans h.size k.size, fun q h1 h2 => (k.block q (Nat.lt_of_lt_of_le h2 h.size) (fun hs => by rcases hS q hs with e | e <;> omega)).trans (h.block q h1 h2)⟩
theorem bytes_of {n : Nat} {A : Nat → Int} (hA : ∀ i, i < n → 0 ≤ A i ∧ A i ≤ 255) : ∃ M : List UInt8, M.length = n ∧ ∀ i (x : UInt8), M[i]? = some x → A i = (x.toNat : Int) := by
  refine ⟨(List.range n).map (fun i => UInt8.ofNat (A i).toNat), by simp, fun i x hx => ?_⟩
  have hi : i < n := by
    rcases Nat.lt_or_ge i n with h | h
    · exact h
    · rw [List.getElem?_eq_none (by simp; omega)] at hx
      cases hx
  simp [hi] at hx
  subst hx
  have := hA i hi
  simp
  omega
theorem arg_of {M : List UInt8} {A : Nat → Int} {W : World} {g c : Nat} (hMA : ∀ i (x : UInt8), M[i]? = some x → A i = (x.toNat : Int)) (hc : M.length ≤ c) (h : ∀ i, i < M.length → W.cell? ⟨g, i, none⟩ = some (.int .u8 (A i))) : Arg (some ⟨g, 0, none⟩) c M W :=
  ⟨hc, fun _ => ⟨_, rfl, fun i x hx => by
    have hi : i < M.length := (List.getElem?_eq_some_iff.1 hx).1
    rw [addr0, h i hi, hMA i x hx]⟩⟩
set_option maxHeartbeats 32000000 in
theorem law_unpack {pa : Option Addr} {ca n : Nat} {A : Nat → Int} (w : World) (ha : RowV w (.slice pa n ca) n (fun i => .int .u8 (A i))) (hn : (n : Int) < 140737488355328) (hA : ∀ i, i < n → 0 ≤ A i ∧ A i ≤ 255) :
    Calls Try.prog 3 #[.slice pa n ca] w fun e w' => e = .returned (.bool true) ∧ Kb 0 w w' := by
  by_cases hlong : 1048576 < n
  · have hl : (1048576 : Int) < (n : Int) := by omega
    clear ha hA hlong
    go_enter Try.func3, Try.ntmps3
    go_wp2_with fail
    go_ret
    exact ⟨rfl, Kb.refl _ _⟩
  have hn9 : n ≤ 1048576 := by omega
  obtain ⟨M, rfl, hMA⟩ := bytes_of hA
  have hl : ¬ (1048576 : Int) < (M.length : Int) := by omega
  have HTO : Hid (∀ W, Kb 0 w W → Calls Try.prog 16 #[.slice pa M.length ca] W fun e w' => ∃ c', e = .returned (.slice (some ⟨W.heap.size, 0, none⟩) M.length c') ∧ M.length ≤ c' ∧ OwnR w' (.slice (some ⟨W.heap.size, 0, none⟩) M.length c') W.heap.size M.length (fun i => .int .u8 (A i)) ∧ Kb 0 W w' ∧ W.heap.size < w'.heap.size) := (fun W k => (to_byts2 W (ha.rowB.keep k).row hn9).mono (fun e w' ⟨c', h1, h2, h3, h4, h5⟩ => ⟨c', h1, h2, h3, Kb.of_below h4 0, h5⟩) : ∀ W, _)
  have HSP : Hid (∀ (W : World) (g c' : Nat), g < W.heap.size → M.length ≤ c' → (∀ i, i < M.length → W.cell? ⟨g, i, none⟩ = some (.int .u8 (A i))) → Calls Try.prog 15 #[.slice (some ⟨g, 0, none⟩) M.length c'] W (UmA M W)) := (fun W g c' h1 h2 h3 => by
    by_cases h8 : 8192 < M.length
    · exact sp_unpack_long hn9 h8
    · exact sp_unpack h2 (fun i x hx => by rw [addr0, h3 i (List.getElem?_eq_some_iff.1 hx).1, hMA i x hx]) h1 (by omega) : ∀ (W : World) (g c' : Nat), _)
  have HIM : Hid (∀ (W : World) (g c' : Nat), M.length ≤ c' → (∀ i, i < M.length → W.cell? ⟨g, i, none⟩ = some (.int .u8 (A i))) → Calls Try.prog 17 #[.slice (some ⟨g, 0, none⟩) M.length c'] W (UnA M W)) := (fun W g c' h2 h3 => by
    by_cases h8 : 8192 < M.length
    · exact im_unpack_long hn9 h8
    · exact im_unpack (arg_of hMA h2 h3) (by omega) : ∀ (W : World) (g c' : Nat), _)
  have HN : Hid (M.length ≤ 1048576) := hn9
  have HT1 := (show ∀ W, Kb 0 w W → _ from HTO) w (Kb.refl _ _)
  clear ha hA hn9 hlong hMA hn
  go_enter Try.func3, Try.ntmps3
  go_wp2_with fail
  refine HT1.mono ?_
  rintro e w1 ⟨c1, rfl, hc1, o1, k1, z1⟩
  have HS1 := (show ∀ (W : World) (g c' : Nat), _ from HSP) w1 w.heap.size c1 z1 hc1 o1.cell
  clear HT1 HSP o1 hc1 z1
  go_wp2_with fail
  refine HS1.mono ?_
  rintro e w2 ⟨ok, a, v2, L, rfl, r2, un2, k2⟩
  obtain ⟨N, hN⟩ : ∃ N, N = L.length := ⟨_, rfl⟩
  obtain ⟨F, hF⟩ : ∃ F, F = TF L := ⟨_, rfl⟩
  rw [← hN, ← hF] at r2
  obtain ⟨pw, qw, rfl, -⟩ := id r2
  obtain ⟨P3, hP3⟩ : ∃ P3, P3 = w2.heap.size := ⟨_, rfl⟩
  obtain ⟨w3, hw3⟩ : ∃ w3, w3 = w2.alloc (.cells #[.bool ok, .int .i64 a.k, .int .i64 a.m, .string a.x, .int .i64 a.r, .slice pw N qw] 29) := ⟨_, rfl⟩
  have k23 : Kb 0 w2 w3 := by rw [hw3]; exact kb_alloc _ _ _
  have b3 : w3.heap[P3]? = some (.cells #[.bool ok, .int .i64 a.k, .int .i64 a.m, .string a.x, .int .i64 a.r, .slice pw N qw] 29 (0, 0)) := by rw [hw3, hP3]; exact alloc_new _ _ _
  have z3 : w3.heap.size = P3 + 1 := by rw [hw3, hP3]; exact World.size_alloc _ _
  have k03 : Kb 0 w w3 := (k1.trans k2).trans k23
  have HK3 : Hid (Kb 0 w w3 ∧ w3.heap[P3]? = some (.cells #[.bool ok, .int .i64 a.k, .int .i64 a.m, .string a.x, .int .i64 a.r, .slice pw N qw] 29 (0, 0)) ∧ w3.heap.size = P3 + 1 ∧ RowT 0 w3 (.slice pw N qw) N F ∧ UnM M ok (a, L) ∧ N = L.length ∧ F = TF L) := (⟨k03, b3, z3, r2.keep k23, un2, hN, hF⟩ : _ ∧ _)
  have HT2 := (show ∀ W, Kb 0 w W → _ from HTO) w3 k03
  have HW3 : Hid (w3 = w2.alloc (.cells #[.bool ok, .int .i64 a.k, .int .i64 a.m, .string a.x, .int .i64 a.r, .slice pw N qw] 29) ∧ P3 = w2.heap.size) := (⟨hw3, hP3⟩ : _ ∧ _)
  clear HS1 r2 un2 k2 k1 hN hF k23 b3 z3 k03 hw3 hP3
  go_upto_region 4 with fail
  rw [← (show _ ∧ _ from HW3).1, ← (show _ ∧ _ from HW3).2]
  clear HW3
  go_wp2_with fail
  refine HT2.mono ?_
  rintro e w4 ⟨c4, rfl, hc4, o4, k4, z4⟩
  have HI4 := (show ∀ (W : World) (g c' : Nat), _ from HIM) w4 w3.heap.size c4 hc4 o4.cell
  obtain ⟨G4, hG4⟩ : ∃ G4, G4 = w3.heap.size := ⟨_, rfl⟩
  rw [← hG4] at HI4 o4 z4 ⊢
  have HK4 : Hid (Kb 0 w3 w4 ∧ OwnR w4 (.slice (some ⟨G4, 0, none⟩) M.length c4) G4 M.length (fun i => .int .u8 (A i)) ∧ G4 < w4.heap.size ∧ G4 = w3.heap.size) := (⟨k4, o4, z4, hG4⟩ : _ ∧ _)
  clear HT2 hc4 o4 k4 z4 hG4
  go_wp2_with fail
  refine HI4.mono ?_
  rintro e w5 ⟨ok', a', v5, L5, rfl, or5, ot5, tt5, ra5, hl5, un5, k5⟩
  obtain ⟨k03, b3, z3, r3, un2, hN, hF⟩ := (show _ ∧ _ ∧ _ ∧ _ ∧ _ ∧ _ ∧ _ from HK3)
  obtain ⟨rfl, hgg⟩ := un_agree un5 un2
  obtain ⟨rfl, rfl⟩ := (Prod.mk.injEq _ _ _ _).mp hgg
  have hN5 : N = L5.length := by rw [hN, List.length_map]
  have hbg : Bg N F a' ∧ Rg N F a' := by
    rw [hN, hF]
    exact bg_of9 (fun q hq => by
      obtain ⟨z, h1, rfl⟩ := List.mem_map.1 hq
      exact tt5 z h1) ra5 (by rw [List.length_map]; exact hl5)
  have hsm : sm (fun i => 1 + 4 * (F i).c) N ≤ 1000000 := by
    have h1 := sm_bound (fun i => 1 + 4 * (F i).c) 1201 N (fun i hi => by
      rw [hN5] at hi
      have e : (F i).c = (L5[i]).1.2.length := by rw [hF]; unfold TF; simp [List.getD, hi]; rfl
      have := (tt5 _ (List.getElem_mem hi)).2.2
      show 1 + 4 * (F i).c ≤ 1201
      omega)
    have : N * 1201 ≤ 600 * 1201 := Nat.mul_le_mul_right _ (by omega)
    omega
  obtain ⟨gg, VG, GG, og5⟩ := owg_of9 or5 ot5
  have hrow5 : ∀ W : World, (∀ q, w4.heap.size ≤ q → q < w5.heap.size → W.heap[q]? = w5.heap[q]?) → w5.heap.size ≤ W.heap.size → RowT 0 W v5 N F := fun W hW hz => by
    rw [hN5, hF]
    exact rowT_of9 (rowBlk9 or5 (fun q e => hW q (or5.lt q e).1 (or5.lt q e).2)) (ot5.mono (Nat.le_refl _) hz (fun q h1 h2 => hW q h1 h2))
  rw [← hF, ← hN5] at og5
  obtain ⟨pg, qg, hv5⟩ := own_shape or5
  rw [← hN5] at hv5
  rw [hv5] at og5 hrow5 ⊢
  clear or5 ot5
  obtain ⟨k34, o4, z4, hG4⟩ := (show _ ∧ _ ∧ _ ∧ _ from HK4)
  obtain ⟨a, hae⟩ : ∃ a, a = a' := ⟨_, rfl⟩
  rw [← hae] at b3 un5 un2 hbg ra5 ⊢
  obtain ⟨ok, hok⟩ : ∃ ok, ok = ok' := ⟨_, rfl⟩
  rw [← hok] at b3 un5 un2 ⊢
  obtain ⟨P6, hP6⟩ : ∃ P6, P6 = w5.heap.size := ⟨_, rfl⟩
  obtain ⟨w6, hw6⟩ : ∃ w6, w6 = w5.alloc (.cells #[.bool ok, .int .i64 a.k, .int .i64 a.m, .string a.x, .int .i64 a.r, .slice pg N qg] 29) := ⟨_, rfl⟩
  have k56 : Kb 0 w5 w6 := by rw [hw6]; exact kb_alloc _ _ _
  have b6 : w6.heap[P6]? = some (.cells #[.bool ok, .int .i64 a.k, .int .i64 a.m, .string a.x, .int .i64 a.r, .slice pg N qg] 29 (0, 0)) := by rw [hw6, hP6]; exact alloc_new _ _ _
  have z6 : w6.heap.size = P6 + 1 := by rw [hw6, hP6]; exact World.size_alloc _ _
  have z5 := k5.size
  have z34 := k34.size
  have k36 : Kb 0 w3 w6 := (k34.trans k5).trans k56
  have k46 : Kb 0 w4 w6 := k5.trans k56
  have b36 := (k36.block P3 (Nat.zero_le _) (by omega)).trans b3
  have y0 : w6.cell? ⟨P3, 0, none⟩ = some (.bool ok) := cell_of b36 rfl
  have y1 : w6.cell? ⟨P3, 1, none⟩ = some (.int .i64 a.k) := cell_of b36 rfl
  have y2 : w6.cell? ⟨P3, 2, none⟩ = some (.int .i64 a.m) := cell_of b36 rfl
  have y3 : w6.cell? ⟨P3, 3, none⟩ = some (.string a.x) := cell_of b36 rfl
  have y4 : w6.cell? ⟨P3, 4, none⟩ = some (.int .i64 a.r) := cell_of b36 rfl
  have y5 : w6.cell? ⟨P3, 5, none⟩ = some (.slice pw N qw) := cell_of b36 rfl
  have g0 : w6.cell? ⟨P6, 0, none⟩ = some (.bool ok) := cell_of b6 rfl
  have g1 : w6.cell? ⟨P6, 1, none⟩ = some (.int .i64 a.k) := cell_of b6 rfl
  have g2 : w6.cell? ⟨P6, 2, none⟩ = some (.int .i64 a.m) := cell_of b6 rfl
  have g3 : w6.cell? ⟨P6, 3, none⟩ = some (.string a.x) := cell_of b6 rfl
  have g4 : w6.cell? ⟨P6, 4, none⟩ = some (.int .i64 a.r) := cell_of b6 rfl
  have g5 : w6.cell? ⟨P6, 5, none⟩ = some (.slice pg N qg) := cell_of b6 rfl
  have HEQ : Hid (∀ (W : World) v v', RowT 0 W v N F → RowT 0 W v' N F → Calls Try.prog 18 #[.agg #[.bool ok, .int .i64 a.k, .int .i64 a.m, .string a.x, .int .i64 a.r, v], .agg #[.bool ok, .int .i64 a.k, .int .i64 a.m, .string a.x, .int .i64 a.r, v']] W fun e w' => e = .returned (.bool true) ∧ Kb 0 W w') := (fun W v v' h h' => eq_unp W h h' hbg.1 : ∀ (W : World) v v', _)
  have HE6 := (show ∀ (W : World) v v', _ from HEQ) w6 _ _ (hrow5 w6 (fun q _ h2 => k56.block q (Nat.zero_le _) h2) k56.size) (r3.keep k36)
  have HB : Hid (Kb 0 w w3 ∧ w3.heap[P3]? = some (.cells #[.bool ok, .int .i64 a.k, .int .i64 a.m, .string a.x, .int .i64 a.r, .slice pw N qw] 29 (0, 0)) ∧ w3.heap.size = P3 + 1 ∧ RowT 0 w3 (.slice pw N qw) N F ∧ G4 = w3.heap.size ∧ G4 < w4.heap.size ∧ w4.heap.size ≤ w5.heap.size ∧ w6.heap.size = P6 + 1 ∧ P6 = w5.heap.size ∧ w6.heap[P6]? = some (.cells #[.bool ok, .int .i64 a.k, .int .i64 a.m, .string a.x, .int .i64 a.r, .slice pg N qg] 29 (0, 0)) ∧ (Bg N F a) ∧ sm (fun i => 1 + 4 * (F i).c) N ≤ 1000000 ∧ (∀ W : World, (∀ q, w4.heap.size ≤ q → q < w5.heap.size → W.heap[q]? = w5.heap[q]?) → w5.heap.size ≤ W.heap.size → RowT 0 W (.slice pg N qg) N F) ∧ OwG w4.heap.size w5.heap.size w5 (.slice pg N qg) N (fun i => (F i).c) gg VG GG ∧ UnR M ok (a, L5.map (·.1)) ∧ N = (L5.map (·.1)).length ∧ F = TF (L5.map (·.1)) ∧ Kb 0 w5 w6 ∧ Kb 0 w4 w6) := (⟨k03, b3, z3, r3, hG4, z4, z5, z6, hP6, b6, hbg.1, hsm, hrow5, og5, un5, hN, hF, k56, k46⟩ : _ ∧ _)
  have HX : Hid (Kb 0 w3 w6 ∧ OwnR w6 (.slice (some ⟨G4, 0, none⟩) M.length c4) G4 M.length (fun i => .int .u8 (A i))) := (⟨k36, o4.kb (fun _ => k46.block G4 (Nat.zero_le _) z4)⟩ : _ ∧ _)
  have HW6 : Hid (w6 = w5.alloc (.cells #[.bool ok, .int .i64 a.k, .int .i64 a.m, .string a.x, .int .i64 a.r, .slice pg N qg] 29) ∧ P6 = w5.heap.size) := (⟨hw6, hP6⟩ : _ ∧ _)
  clear HI4 k03 b3 z3 r3 un2 hN hF hgg hN5 hbg hsm og5 hrow5 hv5 k34 o4 z4 hG4 hae hok hw6 hP6 k56 b6 z6 z5 z34 k36 k46 b36 HK3 HK4 tt5 ra5 hl5 un5 k5
  go_upto_region 6 with fail
  rw [← (show _ ∧ _ from HW6).1, ← (show _ ∧ _ from HW6).2]
  clear HW6
  go_wp2_with fail
  refine HE6.mono ?_
  rintro e w7 ⟨rfl, k7⟩
  clear HE6 y0 y1 y2 y3 y4 y5 g0 g1 g2 g3 g4 g5
  obtain ⟨k36, o6⟩ := (show _ ∧ _ from HX)
  have k37 := k36.trans k7
  have HT7 := (show ∀ W, Kb 0 w W → _ from HTO) w7 ((show _ ∧ _ from HB).1.trans k37)
  have HX7 : Hid (Kb 0 w3 w7 ∧ Kb 0 w6 w7 ∧ OwnR w7 (.slice (some ⟨G4, 0, none⟩) M.length c4) G4 M.length (fun i => .int .u8 (A i))) := (⟨k37, k7, o6.kb (fun hne => k7.block G4 (Nat.zero_le _) (by have := lt_of_cell (o6.cell 0 (by omega)); omega))⟩ : _ ∧ _)
  clear HX k36 o6 k37 k7
  go_wp2_with fail
  refine HT7.mono ?_
  rintro e w8 ⟨c8, rfl, hc8, o8, k8, z8⟩
  obtain ⟨k37, k67, o7⟩ := (show _ ∧ _ ∧ _ from HX7)
  have o78 : OwnR w8 (.slice (some ⟨G4, 0, none⟩) M.length c4) G4 M.length (fun i => .int .u8 (A i)) := o7.kb (fun hne => k8.block G4 (Nat.zero_le _) (by have := lt_of_cell (o7.cell 0 (by omega)); omega))
  have HE8 := eq_byts w8 o78.row o8.row (show M.length ≤ 1048576 from HN)
  have HX8 : Hid (Kb 0 w3 w8 ∧ Kb 0 w6 w8 ∧ OwnR w8 (.slice (some ⟨G4, 0, none⟩) M.length c4) G4 M.length (fun i => .int .u8 (A i))) := (⟨k37.trans k8, k67.trans k8, o78⟩ : _ ∧ _)
  clear HT7 HX7 k37 k67 o7 o78 o8 k8 z8 hc8
  go_wp2_with fail
  refine HE8.mono ?_
  rintro e w9 ⟨rfl, d9, hw9⟩
  obtain ⟨k38, k68, o8⟩ := (show _ ∧ _ ∧ _ from HX8)
  have k89 : Kb 0 w8 w9 := by rw [hw9]; exact (Kb.refl 0 w8).drewN d9
  have o9 : OwnR w9 (.slice (some ⟨G4, 0, none⟩) M.length c4) G4 M.length (fun i => .int .u8 (A i)) := o8.kb (fun hne => k89.block G4 (Nat.zero_le _) (by have := lt_of_cell (o8.cell 0 (by omega)); omega))
  have HM9 := mark_byts w9 1 o9 (show M.length ≤ 1048576 from HN) (by omega) (by omega)
  have HX9 : Hid (Kb 0 w3 w9 ∧ Kb 0 w6 w9) := (⟨k38.trans k89, k68.trans k89⟩ : _ ∧ _)
  have hk1 : ¬ (1 + (M.length : Int)) < 0 := by omega
  clear HE8 HX8 k38 k68 o8 k89 o9 hw9
  go_wp2_with fail
  refine HM9.mono ?_
  rintro e w10 ⟨rfl, kq10, -⟩
  obtain ⟨k39, k69⟩ := (show _ ∧ _ from HX9)
  obtain ⟨k03, b3, z3, r3, hG4, z4, z5, z6, hP6, b6, hbg, hsm, hrow5, og5, un5, hN, hF, k56, k46⟩ := (show _ ∧ _ ∧ _ ∧ _ ∧ _ ∧ _ ∧ _ ∧ _ ∧ _ ∧ _ ∧ _ ∧ _ ∧ _ ∧ _ ∧ _ ∧ _ ∧ _ ∧ _ ∧ _ from HB)
  have k310 : Kb 0 w3 w10 := k39.mkd kq10 (fun q hq => .inr (by omega))
  have k610 : Kb w4.heap.size w6 w10 := (k69.mono (Nat.zero_le _)).mkd kq10 (fun q hq => .inl (by omega))
  have b310 := (k310.block P3 (Nat.zero_le _) (by omega)).trans b3
  have b610 := (k610.block P6 (by omega) (by omega)).trans b6
  have y0 : w10.cell? ⟨P3, 0, none⟩ = some (.bool ok) := cell_of b310 rfl
  have y1 : w10.cell? ⟨P3, 1, none⟩ = some (.int .i64 a.k) := cell_of b310 rfl
  have y2 : w10.cell? ⟨P3, 2, none⟩ = some (.int .i64 a.m) := cell_of b310 rfl
  have y3 : w10.cell? ⟨P3, 3, none⟩ = some (.string a.x) := cell_of b310 rfl
  have y4 : w10.cell? ⟨P3, 4, none⟩ = some (.int .i64 a.r) := cell_of b310 rfl
  have y5 : w10.cell? ⟨P3, 5, none⟩ = some (.slice pw N qw) := cell_of b310 rfl
  have g0 : w10.cell? ⟨P6, 0, none⟩ = some (.bool ok) := cell_of b610 rfl
  have g1 : w10.cell? ⟨P6, 1, none⟩ = some (.int .i64 a.k) := cell_of b610 rfl
  have g2 : w10.cell? ⟨P6, 2, none⟩ = some (.int .i64 a.m) := cell_of b610 rfl
  have g3 : w10.cell? ⟨P6, 3, none⟩ = some (.string a.x) := cell_of b610 rfl
  have g4 : w10.cell? ⟨P6, 4, none⟩ = some (.int .i64 a.r) := cell_of b610 rfl
  have g5 : w10.cell? ⟨P6, 5, none⟩ = some (.slice pg N qg) := cell_of b610 rfl
  have z610 := k610.size
  have HE10 := (show ∀ (W : World) v v', _ from HEQ) w10 _ _ (hrow5 w10 (fun q h1 h2 => (k610.block q h1 (by omega)).trans (k56.block q (Nat.zero_le _) h2)) (by omega)) (r3.keep k310)
  have HX10 : Hid (Kb 0 w3 w10 ∧ Kb w4.heap.size w6 w10) := (⟨k310, k610⟩ : _ ∧ _)
  clear HM9 HX9 k39 k69 k03 b3 z3 r3 hG4 z4 z5 z6 hP6 b6 hbg hsm hrow5 og5 un5 hN hF k56 k46 k310 k610 b310 b610 kq10 z610
  go_wp2_with fail
  refine HE10.mono ?_
  rintro e w11 ⟨rfl, k11⟩
  clear hk1 hl HE10 y0 y1 y2 y3 y4 y5 g0 g1 g2 g3 g4 g5
  obtain ⟨k310, k610⟩ := (show _ ∧ _ from HX10)
  obtain ⟨k03, b3, z3, r3, hG4, z4, z5, z6, hP6, b6, hbg, hsm, hrow5, og5, un5, hN, hF, k56, k46⟩ := (show _ ∧ _ ∧ _ ∧ _ ∧ _ ∧ _ ∧ _ ∧ _ ∧ _ ∧ _ ∧ _ ∧ _ ∧ _ ∧ _ ∧ _ ∧ _ ∧ _ ∧ _ ∧ _ from HB)
  have k311 := k310.trans k11
  have k611 := k610.trans (k11.mono (Nat.zero_le _))
  have b611 := (k611.block P6 (by omega) (by omega)).trans b6
  have g0 : w11.cell? ⟨P6, 0, none⟩ = some (.bool ok) := cell_of b611 rfl
  have g1 : w11.cell? ⟨P6, 1, none⟩ = some (.int .i64 a.k) := cell_of b611 rfl
  have g2 : w11.cell? ⟨P6, 2, none⟩ = some (.int .i64 a.m) := cell_of b611 rfl
  have g3 : w11.cell? ⟨P6, 3, none⟩ = some (.string a.x) := cell_of b611 rfl
  have g4 : w11.cell? ⟨P6, 4, none⟩ = some (.int .i64 a.r) := cell_of b611 rfl
  have g5 : w11.cell? ⟨P6, 5, none⟩ = some (.slice pg N qg) := cell_of b611 rfl
  have z611 := k611.size
  have og11 : OwG w4.heap.size w5.heap.size w11 (.slice pg N qg) N (fun i => (F i).c) gg VG GG := og5.block (fun q h1 h2 => (k611.block q h1 (by omega)).trans (k56.block q (Nat.zero_le _) h2))
  have HM := mark_unp (ok := ok) (a := a) w11 1 og11 (by omega) hbg.hn (fun i hi => hbg.hc i hi) (by omega) (by omega)
  obtain ⟨KG, hKG⟩ : ∃ KG : Int, KG = 1 + (sm (fun i => 1 + 4 * (F i).c) N : Int) := ⟨_, rfl⟩
  rw [← hKG] at HM
  have hKG0 : ¬ KG < 0 := by omega
  have hKG1 : (KG != KG) = false := by simp
  have HKG : Hid (KG = 1 + (sm (fun i => 1 + 4 * (F i).c) N : Int)) := hKG
  have HX11 : Hid (Kb 0 w3 w11 ∧ w11.heap[P6]? = some (.cells #[.bool ok, .int .i64 a.k, .int .i64 a.m, .string a.x, .int .i64 a.r, .slice pg N qg] 29 (0, 0)) ∧ P6 < w11.heap.size) := (⟨k311, b611, by omega⟩ : _ ∧ _)
  clear HX10 k310 k610 k03 b3 z3 r3 hG4 z4 z5 z6 hP6 b6 hbg hsm hrow5 og5 un5 hN hF k56 k46 k311 k611 b611 z611 og11 k11 hKG
  go_wp2_with fail
  refine HM.mono ?_
  rintro e w12 ⟨rfl, kq12, md12⟩
  clear HM g0 g1 g2 g3 g4 g5
  obtain ⟨k311, b611, z11⟩ := (show _ ∧ _ ∧ _ from HX11)
  obtain ⟨k03, b3, z3, r3, hG4, z4, z5, z6, hP6, b6, hbg, hsm, hrow5, og5, un5, hN, hF, k56, k46⟩ := (show _ ∧ _ ∧ _ ∧ _ ∧ _ ∧ _ ∧ _ ∧ _ ∧ _ ∧ _ ∧ _ ∧ _ ∧ _ ∧ _ ∧ _ ∧ _ ∧ _ ∧ _ ∧ _ from HB)
  have k312 : Kb 0 w3 w12 := k311.mkd kq12 (fun q hq => .inr (by omega))
  have b612 := (kq12.block P6 z11 (by omega)).trans b611
  have z12 := kq12.size
  have g0 : w12.cell? ⟨P6, 0, none⟩ = some (.bool ok) := cell_of b612 rfl
  have g1 : w12.cell? ⟨P6, 1, none⟩ = some (.int .i64 a.k) := cell_of b612 rfl
  have g2 : w12.cell? ⟨P6, 2, none⟩ = some (.int .i64 a.m) := cell_of b612 rfl
  have g3 : w12.cell? ⟨P6, 3, none⟩ = some (.string a.x) := cell_of b612 rfl
  have g4 : w12.cell? ⟨P6, 4, none⟩ = some (.int .i64 a.r) := cell_of b612 rfl
  have g5 : w12.cell? ⟨P6, 5, none⟩ = some (.slice pg N qg) := cell_of b612 rfl
  have HH := held_unp (ok := ok) (a := a) w12 1 md12 (by omega) hbg.hn (fun i hi => hbg.hc i hi) (by omega) (by omega)
  rw [← (show KG = _ from HKG)] at HH
  have HX12 : Hid (Kb 0 w3 w12 ∧ w12.heap[P6]? = some (.cells #[.bool ok, .int .i64 a.k, .int .i64 a.m, .string a.x, .int .i64 a.r, .slice pg N qg] 29 (0, 0)) ∧ P6 < w12.heap.size ∧ MdG w4.heap.size w5.heap.size w12 (.slice pg N qg) N (fun i => (F i).c) gg VG GG 1) := (⟨k312, b612, by omega, md12⟩ : _ ∧ _)
  clear HX11 k311 b611 z11 k03 b3 z3 r3 hG4 z4 z5 z6 hP6 b6 hbg hsm hrow5 og5 un5 hN hF k56 k46 k312 b612 z12 kq12 md12
  go_wp2_with fail
  refine HH.mono ?_
  rintro e w13 ⟨rfl, k13⟩
  clear HH g0 g1 g2 g3 g4 g5
  obtain ⟨k312, b612, z12, md12⟩ := (show _ ∧ _ ∧ _ ∧ _ from HX12)
  have k313 := k312.trans k13
  have HT13 := (show ∀ W, Kb 0 w W → _ from HTO) w13 ((show _ ∧ _ from HB).1.trans k313)
  have HX13 : Hid (Kb 0 w12 w13 ∧ Kb 0 w3 w13) := (⟨k13, k313⟩ : _ ∧ _)
  clear k312 b612 z12 md12 k313 k13
  go_wp2_with fail
  refine HT13.mono ?_
  rintro e w14 ⟨c14, rfl, hc14, o14, k14, z14⟩
  have HI14 := (show ∀ (W : World) (g c' : Nat), _ from HIM) w14 w13.heap.size c14 hc14 o14.cell
  have HX14 : Hid (Kb 0 w12 w14 ∧ Kb 0 w3 w14) := (⟨(show _ ∧ _ from HX13).1.trans k14, (show _ ∧ _ from HX13).2.trans k14⟩ : _ ∧ _)
  clear HT13 HX13 hc14 o14 k14 z14 HTO HIM
  go_wp2_with fail
  refine HI14.mono ?_
  rintro e w15 ⟨ok', a', v15, L15, rfl, or15, ot15, tt15, ra15, hl15, un15, k15⟩
  obtain ⟨k03, b3, z3, r3, hG4, z4, z5, z6, hP6, b6, hbg, hsm, hrow5, og5, un5, hN, hF, k56, k46⟩ := (show _ ∧ _ ∧ _ ∧ _ ∧ _ ∧ _ ∧ _ ∧ _ ∧ _ ∧ _ ∧ _ ∧ _ ∧ _ ∧ _ ∧ _ ∧ _ ∧ _ ∧ _ ∧ _ from HB)
  obtain ⟨rfl, hgg⟩ := un15.uniq un5
  obtain ⟨rfl, hLL⟩ := (Prod.mk.injEq _ _ _ _).mp hgg
  have hN15 : N = L15.length := by rw [hN, ← hLL, List.length_map]
  have rh15 : RowT 0 w15 v15 N F := by
    rw [hN15, hF, ← hLL]
    exact rowT_of9 or15 ot15
  obtain ⟨ph, qh, hv15⟩ := own_shape or15
  rw [← hN15] at hv15
  rw [hv15] at rh15 ⊢
  obtain ⟨a, hae⟩ : ∃ a, a = a' := ⟨_, rfl⟩
  rw [← hae] at b3 ⊢
  obtain ⟨ok, hok⟩ : ∃ ok, ok = ok' := ⟨_, rfl⟩
  rw [← hok] at b3 ⊢
  obtain ⟨P16, hP16⟩ : ∃ P16, P16 = w15.heap.size := ⟨_, rfl⟩
  obtain ⟨w16, hw16⟩ : ∃ w16, w16 = w15.alloc (.cells #[.bool ok, .int .i64 a.k, .int .i64 a.m, .string a.x, .int .i64 a.r, .slice ph N qh] 29) := ⟨_, rfl⟩
  have k1516 : Kb 0 w15 w16 := by rw [hw16]; exact kb_alloc _ _ _
  have b16 : w16.heap[P16]? = some (.cells #[.bool ok, .int .i64 a.k, .int .i64 a.m, .string a.x, .int .i64 a.r, .slice ph N qh] 29 (0, 0)) := by rw [hw16, hP16]; exact alloc_new _ _ _
  obtain ⟨k1214, k314⟩ := (show _ ∧ _ from HX14)
  have k316 := (k314.trans k15).trans k1516
  have k1216 := (k1214.trans k15).trans k1516
  have b316 := (k316.block P3 (Nat.zero_le _) (by omega)).trans b3
  have y0 : w16.cell? ⟨P3, 0, none⟩ = some (.bool ok) := cell_of b316 rfl
  have y1 : w16.cell? ⟨P3, 1, none⟩ = some (.int .i64 a.k) := cell_of b316 rfl
  have y2 : w16.cell? ⟨P3, 2, none⟩ = some (.int .i64 a.m) := cell_of b316 rfl
  have y3 : w16.cell? ⟨P3, 3, none⟩ = some (.string a.x) := cell_of b316 rfl
  have y4 : w16.cell? ⟨P3, 4, none⟩ = some (.int .i64 a.r) := cell_of b316 rfl
  have y5 : w16.cell? ⟨P3, 5, none⟩ = some (.slice pw N qw) := cell_of b316 rfl
  have h0 : w16.cell? ⟨P16, 0, none⟩ = some (.bool ok) := cell_of b16 rfl
  have h1 : w16.cell? ⟨P16, 1, none⟩ = some (.int .i64 a.k) := cell_of b16 rfl
  have h2 : w16.cell? ⟨P16, 2, none⟩ = some (.int .i64 a.m) := cell_of b16 rfl
  have h3 : w16.cell? ⟨P16, 3, none⟩ = some (.string a.x) := cell_of b16 rfl
  have h4 : w16.cell? ⟨P16, 4, none⟩ = some (.int .i64 a.r) := cell_of b16 rfl
  have h5 : w16.cell? ⟨P16, 5, none⟩ = some (.slice ph N qh) := cell_of b16 rfl
  have HE16 := (show ∀ (W : World) v v', RowT 0 W v N F → RowT 0 W v' N F → Calls Try.prog 18 #[.agg #[.bool ok, .int .i64 a.k, .int .i64 a.m, .string a.x, .int .i64 a.r, v], .agg #[.bool ok, .int .i64 a.k, .int .i64 a.m, .string a.x, .int .i64 a.r, v']] W fun e w' => e = .returned (.bool true) ∧ Kb 0 W w' from by rw [hok, hae]; exact HEQ) w16 _ _ (rh15.keep k1516) (r3.keep k316)
  have HX16 : Hid (Kb 0 w12 w16 ∧ Kb 0 w3 w16) := (⟨k1216, k316⟩ : _ ∧ _)
  have HAE : Hid (a = a' ∧ ok = ok') := (⟨hae, hok⟩ : _ ∧ _)
  have HW16 : Hid (w16 = w15.alloc (.cells #[.bool ok, .int .i64 a.k, .int .i64 a.m, .string a.x, .int .i64 a.r, .slice ph N qh] 29) ∧ P16 = w15.heap.size) := (⟨hw16, hP16⟩ : _ ∧ _)
  clear HI14 HX14 k03 b3 z3 r3 hG4 z4 z5 z6 hP6 b6 hbg hsm hrow5 og5 un5 hN hF k56 k46 hgg hLL hN15 rh15 hv15 or15 ot15 tt15 ra15 hl15 un15 k15 hae hok hw16 hP16 k1516 b16 k1214 k314 k316 k1216 b316 HEQ
  go_upto_region 23 with fail
  rw [← (show _ ∧ _ from HW16).1, ← (show _ ∧ _ from HW16).2]
  clear HW16
  go_wp2_with fail
  refine HE16.mono ?_
  rintro e w17 ⟨rfl, k17⟩
  clear HE16 y0 y1 y2 y3 y4 y5 h0 h1 h2 h3 h4 h5
  obtain ⟨k1216, k316⟩ := (show _ ∧ _ from HX16)
  obtain ⟨k312, b612, z12, md12⟩ := (show _ ∧ _ ∧ _ ∧ _ from HX12)
  obtain ⟨k03, b3, z3, r3, hG4, z4, z5, z6, hP6, b6, hbg, hsm, hrow5, og5, un5, hN, hF, k56, k46⟩ := (show _ ∧ _ ∧ _ ∧ _ ∧ _ ∧ _ ∧ _ ∧ _ ∧ _ ∧ _ ∧ _ ∧ _ ∧ _ ∧ _ ∧ _ ∧ _ ∧ _ ∧ _ ∧ _ from HB)
  obtain ⟨hae, hok⟩ := (show _ ∧ _ from HAE)
  have k1217 := k1216.trans k17
  have b617 := (k1217.block P6 (Nat.zero_le _) z12).trans b612
  rw [← hae, ← hok] at b617
  have g0 : w17.cell? ⟨P6, 0, none⟩ = some (.bool ok) := cell_of b617 rfl
  have g1 : w17.cell? ⟨P6, 1, none⟩ = some (.int .i64 a.k) := cell_of b617 rfl
  have g2 : w17.cell? ⟨P6, 2, none⟩ = some (.int .i64 a.m) := cell_of b617 rfl
  have g3 : w17.cell? ⟨P6, 3, none⟩ = some (.string a.x) := cell_of b617 rfl
  have g4 : w17.cell? ⟨P6, 4, none⟩ = some (.int .i64 a.r) := cell_of b617 rfl
  have g5 : w17.cell? ⟨P6, 5, none⟩ = some (.slice pg N qg) := cell_of b617 rfl
  have z17 := k1217.size
  have HH := held_unp (ok := ok) (a := a) w17 1 (md12.block (fun q _ h2 => k1217.block q (Nat.zero_le _) (by omega))) (by omega) hbg.hn (fun i hi => hbg.hc i hi) (by omega) (by omega)
  rw [← (show KG = _ from HKG)] at HH
  have HF17 : Hid (Kb 0 w w17) := k03.trans (k316.trans k17)
  clear HX16 k1216 k316 k312 b612 z12 md12 k03 b3 z3 r3 hG4 z4 z5 z6 hP6 b6 hbg hsm hrow5 og5 un5 hN hF k56 k46 k1217 b617 z17 k17 HX12 HB HKG HN hae hok
  have e5 : ok' = ok := (show _ ∧ _ from HAE).2.symm
  have e6 : a' = a := (show _ ∧ _ from HAE).1.symm
  clear HAE
  subst e5
  subst e6
  go_wp2_with fail
  refine HH.mono ?_
  rintro e w18 ⟨rfl, k18⟩
  have HF : Hid (Kb 0 w w18) := (show Kb 0 w w17 from HF17).trans k18
  clear HH g0 g1 g2 g3 g4 g5 HF17 k18
  go_wp2_with fail
  go_ret
  exact ⟨rfl, HF⟩
end Go.Proofs.Ytbbjbojjglhgmaa.Fo
