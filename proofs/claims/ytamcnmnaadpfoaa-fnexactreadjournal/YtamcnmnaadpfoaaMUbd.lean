import Derived.Test.YtamcnmnaadpfoaaMGec
import Derived.Test.YtamcnmnaadpfoaaMGcd
import Derived.Test.YtamcnmnaadpfoaaMGdf
import Derived.Test.YtamcnmnaadpfoaaMUbb
namespace Go.Proofs.Ytamcnmnaadpfoaa.Fo
open Go.ChangeShapes Go.WideShapes Go.ChangeAt Go.RowKit
set_option linter.unusedVariables false
set_option maxRecDepth 100000
end Go.Proofs.Ytamcnmnaadpfoaa.Fo

namespace Go.Proofs.Ytamcnmnaadpfoaa.Fo
open Go.ChangeShapes Go.WideShapes Go.ChangeAt Go.RowKit
set_option linter.unusedVariables false
set_option maxRecDepth 100000
theorem kq_alloc (S : Nat → Prop) (w : World) (o : Obj) : Kq S w (w.alloc o) := ⟨rfl, rfl, rfl, by rw [World.size_alloc]; omega, fun k hk _ => (kb_alloc 0 w o).block k (Nat.zero_le _) hk⟩
end Go.Proofs.Ytamcnmnaadpfoaa.Fo

namespace Go.Proofs.Ytamcnmnaadpfoaa.Fo
open Go.ChangeShapes Go.WideShapes Go.ChangeAt Go.RowKit
set_option linter.unusedVariables false
set_option maxRecDepth 100000
/-- all that is known of a row of one's own -/
theorem own_all {w : World} {B : Nat} {e : TypeId} {s n : Nat} {v : Value} {xs : List Value} (h : w.ownsRow B e s v n xs) (hn : 0 < n) : ∃ g cap, v = .slice (some ⟨g, 0, none⟩) n cap ∧ B ≤ g ∧ g < w.heap.size ∧ n ≤ cap ∧ (∀ j, j < n * s → w.cell? ⟨g, j, none⟩ = xs[j]?) ∧ ∀ j, w.frozen? ⟨g, j, none⟩ = false := by
  rcases h.2 with ⟨_, h0⟩ | ⟨g, cap, cur, hv, hb, hg, hc, _⟩
  · omega
  · rw [hv] at h
    exact ⟨g, cap, hv, hb, (Array.getElem?_eq_some_iff.1 hg).1, hc, fun j hj => h.cellAt j hj, fun j => frozen_of hg⟩
theorem owg_of9 {B : Nat} {w : World} {v : Value} {L : List TV} (h : w.ownsRow B 50 2 v L.length (L.flatMap tvc)) (ho : OwnT B w L v.ownBlock) : ∃ g V G, OwG B w.heap.size w v L.length (fun i => (TF (L.map (·.1)) i).c) g V G := by
  obtain ⟨lo, hi, h1, h2, h3⟩ := ho
  have hF : ∀ i (z : TV), L[i]? = some z → (TF (L.map (·.1)) i).c = z.1.2.length := fun i z hz => by
    unfold TF
    simp [List.getD, hz]
    rfl
  rcases Nat.eq_zero_or_pos L.length with h0 | hn
  · obtain ⟨ad, cap, hv⟩ := own_shape h
    exact ⟨0, fun _ => .slice none 0 0, fun _ => 0, ⟨ad, cap, hv, fun q => by omega⟩, fun q => by omega, fun i hi => by omega, fun i hi => by omega, fun q => by omega, fun i hi => by omega, fun i hi => by omega, fun i j hi => by omega⟩
  obtain ⟨g, cap, rfl, hB, hg, hcap, hce, hfz⟩ := own_all h hn
  have key : ∀ i, i < L.length → ∃ z : TV, L[i]? = some z ∧ L.getD i ((0, []), .slice none 0 0) = z := fun i hi => ⟨L[i], List.getElem?_eq_getElem hi, by simp [List.getD, List.getElem?_eq_getElem hi]⟩
  refine ⟨g, fun i => (L.getD i ((0, []), .slice none 0 0)).2, fun i => ((L.getD i ((0, []), .slice none 0 0)).2.ownBlock).getD 0, ⟨_, _, rfl, fun _ => ⟨rfl, hcap⟩⟩, fun _ => ⟨hB, hg⟩, fun i hi => ?_, fun i hi => ?_, fun _ j => hfz j, fun i hi => ?_, fun i hi hc => ?_, fun i j hi hj hij hc hd => ?_⟩
  · obtain ⟨z, hz, _⟩ := key i hi
    have := fm_at9 (cl := tvc) (wd := 2) (fun _ => rfl) hz 0 (by omega)
    exact ⟨_, (hce (i * 2) (by omega)).trans this⟩
  · obtain ⟨z, hz, e⟩ := key i hi
    have := fm_at9 (cl := tvc) (wd := 2) (fun _ => rfl) hz 1 (by omega)
    rw [e]
    exact (hce (i * 2 + 1) (by omega)).trans this
  · obtain ⟨z, hz, e⟩ := key i hi
    obtain ⟨q1, q2, q3, q4⟩ := h1 i z hz
    show OwV w (L.getD i ((0, []), .slice none 0 0)).2 _ (TF (L.map (·.1)) i).c
    rw [hF i z hz, e]
    obtain ⟨ad, c', hv⟩ := own_shape q3
    refine ⟨ad, c', hv, fun hc => ?_⟩
    obtain ⟨g', cap', hv', _, _, hcc, hce', hfz'⟩ := own_all q3 hc
    rw [hv] at hv'
    obtain ⟨rfl, _, rfl⟩ := (Value.slice.injEq _ _ _ _ _ _).mp hv'
    have e2 : (z.2.ownBlock).getD 0 = g' := by rw [hv]; rfl
    rw [e2]
    refine ⟨rfl, hcc, fun j hj => ?_, hfz'⟩
    have hl : j < (z.1.2.flatMap glc).length := by rw [q3.1]; exact hj
    exact ⟨_, (hce' j hj).trans (List.getElem?_eq_getElem hl)⟩
  · obtain ⟨z, hz, e⟩ := key i hi
    obtain ⟨q1, q2, q3, q4⟩ := h1 i z hz
    have hc' : 0 < z.1.2.length := by rw [← hF i z hz]; exact hc
    obtain ⟨g', cap', hv', y1, y2, _⟩ := own_all q3 hc'
    have e2 : ((L.getD i ((0, []), .slice none 0 0)).2.ownBlock).getD 0 = g' := by rw [e, hv']; rfl
    rw [e2]
    have y3 := q4 g' (by rw [hv']; rfl)
    refine ⟨by omega, by omega, fun e3 => ?_⟩
    exact h3 g i rfl hi ⟨by omega, by omega⟩
  · obtain ⟨z, hz, e⟩ := key i hi
    obtain ⟨z', hz', e'⟩ := key j hj
    obtain ⟨q1, q2, q3, q4⟩ := h1 i z hz
    obtain ⟨r1, r2, r3, r4⟩ := h1 j z' hz'
    have hc' : 0 < z.1.2.length := by rw [← hF i z hz]; exact hc
    have hd' : 0 < z'.1.2.length := by rw [← hF j z' hz']; exact hd
    obtain ⟨g', _, hv', y1, y2, _⟩ := own_all q3 hc'
    obtain ⟨g'', _, hv'', x1, x2, _⟩ := own_all r3 hd'
    have y3 := q4 g' (by rw [hv']; rfl)
    have x3 := r4 g'' (by rw [hv'']; rfl)
    show ((L.getD i ((0, []), .slice none 0 0)).2.ownBlock).getD 0 ≠ ((L.getD j ((0, []), .slice none 0 0)).2.ownBlock).getD 0
    rw [e, e', hv', hv'']
    show g' ≠ g''
    rcases Nat.lt_or_gt_of_ne hij with q | q
    · have := h2 i j q hj; omega
    · have := h2 j i q hi; omega
end Go.Proofs.Ytamcnmnaadpfoaa.Fo

namespace Go.Proofs.Ytamcnmnaadpfoaa.Fo
open Go.ChangeShapes Go.WideShapes Go.ChangeAt Go.RowKit
set_option linter.unusedVariables false
set_option maxRecDepth 100000
set_option maxHeartbeats 4000000 in
theorem to_byts2 {va : Value} {n : Nat} {A : Nat → Int} (w : World) (ha : RowV w va n (fun i => .int .u8 (A i))) (hn : n ≤ 1048576) :
    Calls Try.prog 6 #[va] w fun e w' => ∃ c', e = .returned (.slice (some ⟨w.heap.size, 0, none⟩) n c') ∧ n ≤ c' ∧ OwnR w' (.slice (some ⟨w.heap.size, 0, none⟩) n c') w.heap.size n (fun i => .int .u8 (A i)) ∧ Below w.heap.size w w' ∧ w.heap.size < w'.heap.size := by
  obtain ⟨pa, ca, rfl, ha2⟩ := ha
  have hnI : (n : Int) ≤ 1048576 := by omega
  have hmk := run_make (P := Try.prog) w 22 5 Try.t5 (.int .u8 0) Try.underlying22 (by kernel_rfl) (by kernel_rfl) .i64 .i64 (n : Int) (n : Int) (by omega) (Int.le_refl _) (by show (1 : Int) * (n : Int) ≤ _; omega) (by omega)
  rw [Int.toNat_natCast] at hmk
  obtain ⟨w1, hw1⟩ : ∃ w1, w1 = w.alloc (.cells (madeCells (.int .u8 0 : Value).cells (n * Try.t5.size)) 5) := ⟨_, rfl⟩
  rw [← hw1] at hmk
  have c1 : ∀ j, j < n → w1.cell? ⟨w.heap.size, j, none⟩ = some (.int .u8 0) := by intro j hj; rw [hw1]; exact made_cell w _ 5 n rfl j hj
  have f1 : ∀ j, w1.frozen? ⟨w.heap.size, j, none⟩ = false := by intro j; rw [hw1]; exact made_fz _ _ _ _
  have b1 : Below w.heap.size w w1 := by rw [hw1]; exact (Below.refl _ w).alloc (Nat.le_refl _) _
  have l1 : w.heap.size < w1.heap.size := by rw [hw1]; simp
  have HI0 : Hid (MkR w1 w.heap.size n (fun _ => .int .u8 0) (fun i => .int .u8 (A i)) 0 w1) := (⟨Kq.refl _ _, fun i hi => by omega, fun i _ hi => c1 i hi, f1⟩ : MkR w1 w.heap.size n _ _ 0 w1)
  have HA : Hid ((0 < n → ∃ a : Addr, pa = some a ∧ n ≤ ca ∧ ∀ i, i < n → w.cell? (a.add i) = some (.int .u8 (A i))) ∧ Below w.heap.size w w1 ∧ w.heap.size < w1.heap.size) := (⟨ha2, b1, l1⟩ : _ ∧ _ ∧ _)
  clear ha2 b1 c1 f1 hw1 hn l1
  obtain ⟨G, hG⟩ : ∃ G, G = w.heap.size := ⟨_, rfl⟩
  rw [← hG] at hmk HI0 ⊢
  have HG : Hid (G = w.heap.size) := hG
  clear hG
  go_enter Try.func6, Try.ntmps6
  go_wp2_with fail
  go_loopw [4] (fun s4 wr => ∃ i : Nat, s4 = .int .i64 (i : Int) ∧ i ≤ n ∧ Hid (MkR w1 G n (fun _ => .int .u8 0) (fun i => .int .u8 (A i)) i wr)) (fun s4 _ => n - (intOf s4).toNat)
  case atStart => exact ⟨0, rfl, Nat.zero_le _, HI0⟩
  case round =>
    clear HI0 hmk
    obtain ⟨i, rfl, hin, HI⟩ := hrel
    have hI := (show MkR w1 G n (fun _ => .int .u8 0) (fun i => .int .u8 (A i)) i wr from HI)
    have hA := (show (0 < n → ∃ a : Addr, pa = some a ∧ n ≤ ca ∧ ∀ i, i < n → w.cell? (a.add i) = some (.int .u8 (A i))) ∧ Below w.heap.size w w1 ∧ w.heap.size < w1.heap.size from HA)
    rcases Nat.lt_or_ge i n with hi | hi
    · have hiI : (i : Int) < (n : Int) := by omega
      obtain ⟨a, rfl, hca, hra⟩ := hA.1 (by omega)
      have q0 := hra i hi
      have hl := lt_of_cell' q0
      have qa : wr.cell? (a.add i) = some (.int .u8 (A i)) := by
        rw [World.cell?_of_block (w := w1) (hI.kq.block _ (Nat.lt_of_lt_of_le hl hA.2.1.size) (by rw [show G = w.heap.size from HG]; omega)), hA.2.1.cell hl]
        exact q0
      obtain ⟨c, f, hM⟩ := hI.step hi (Below.refl _ _)
      have HM : Hid (MkR w1 G n (fun _ => .int .u8 0) (fun i => .int .u8 (A i)) (i + 1) (wr.setCell ⟨G, i, none⟩ (.int .u8 (A i)))) := hM
      clear hM hI HI hin hA HA hra q0 hl HG
      generalize A i = y at qa HM
      go_wp2_with fail
      go_roundw
      case rel => exact ⟨i + 1, by go_num, by omega, HM⟩
      case measure => simp [intOf]; omega
    · obtain rfl : i = n := by omega
      have HE : Hid (MkR w1 G i (fun _ => .int .u8 0) (fun i => .int .u8 (A i)) i wr ∧ Below w.heap.size w w1 ∧ G = w.heap.size ∧ w.heap.size < w1.heap.size) := (⟨hI, hA.2.1, HG, hA.2.2⟩ : _ ∧ _ ∧ _ ∧ _)
      clear HI hI hA HA HG
      go_wp2_with fail
      go_ret
      obtain ⟨hE, hB, rfl, hL⟩ := (show MkR w1 G i (fun _ => .int .u8 0) (fun i => .int .u8 (A i)) i wr ∧ Below w.heap.size w w1 ∧ G = w.heap.size ∧ w.heap.size < w1.heap.size from HE)
      refine ⟨_, rfl, Nat.le_refl _, ⟨⟨_, _, rfl, fun _ => ⟨rfl, Nat.le_refl _⟩⟩, fun j hj => hE.don j hj, fun _ j => hE.fz j⟩, ?_, Nat.lt_of_lt_of_le hL hE.kq.size⟩
      exact ⟨hE.kq.os.trans hB.os, hE.kq.tape.trans hB.tape, hE.kq.output.trans hB.output, Nat.le_trans hB.size hE.kq.size, fun k hk => (hE.kq.block k (Nat.lt_of_lt_of_le hk hB.size) (by omega)).trans (hB.block k hk)⟩
theorem Kb.mkd {a w w' : World} {b : Nat} {S : Nat → Prop} (h : Kb b a w) (k : Kq S w w') (hS : ∀ q, S q → q < b ∨ a.heap.size ≤ q) : Kb b a w' :=
  ⟨k.os.trans h.os, k.output.trans h.output, Nat.le_trans h.size k.size, fun q h1 h2 => (k.block q (Nat.lt_of_lt_of_le h2 h.size) (fun hs => by rcases hS q hs with e | e <;> omega)).trans (h.block q h1 h2)⟩
theorem bytes_of {n : Nat} {A : Nat → Int} (hA : ∀ i, i < n → 0 ≤ A i ∧ A i ≤ 255) : ∃ M : List UInt8, M.length = n ∧ ∀ i (x : UInt8), M[i]? = some x → A i = (x.toNat : Int) := by
  refine ⟨(List.range n).map (fun i => UInt8.ofNat (A i).toNat), by simp, fun i x hx => ?_⟩
  have hi : i < n := by
    rcases Nat.lt_or_ge i n with h | h
    · exact h
    · rw [List.getElem?_eq_none (by simp; omega)] at hx
      cases hx
  simp [hi] at hx
  subst hx
  have := hA i hi
  simp
  omega
theorem arg_of {M : List UInt8} {A : Nat → Int} {W : World} {g c : Nat} (hMA : ∀ i (x : UInt8), M[i]? = some x → A i = (x.toNat : Int)) (hc : M.length ≤ c) (h : ∀ i, i < M.length → W.cell? ⟨g, i, none⟩ = some (.int .u8 (A i))) : Arg (some ⟨g, 0, none⟩) c M W :=
  ⟨hc, fun _ => ⟨_, rfl, fun i x hx => by
    have hi : i < M.length := (List.getElem?_eq_some_iff.1 hx).1
    rw [addr0, h i hi, hMA i x hx]⟩⟩
end Go.Proofs.Ytamcnmnaadpfoaa.Fo
