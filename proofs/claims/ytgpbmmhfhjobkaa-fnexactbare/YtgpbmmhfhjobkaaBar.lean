import Derived.Test.YtgpbmmhfhjobkaaBaq
import Derived.Test.YtgpbmmhfhjobkaaReg
namespace Go.Proofs.Ytgpbmmhfhjobkaa
open Go.ChangeShapes Go.WideShapes Go.ChangeAt Go.RowKit
set_option linter.unusedVariables false
theorem Bv.below {w : World} {vo : Value} {F : Nat → Gv} {i : Nat} {W W' : World} (h : Bv w vo F i W) (hb : Below W.heap.size W W') : Bv w vo F i W' := by
  have hs := h.size
  have h1 := h.bel.size
  obtain ⟨L, t, ha⟩ := h.acc
  exact ⟨h.bel.trans (hb.mono h1), Nat.le_trans hs hb.size, (hb.block _ (by omega)).trans h.res, (hb.block _ (by omega)).trans h.out, L, t, ha.below hb⟩
theorem Bv.start (w : World) (F : Nat → Gv) (a : Obj) : Bv w (.slice none 0 0) F 0 (((w.alloc a).alloc (.cells #[.slice none 0 0] 28)).alloc (.cells #[.slice none 0 0] 28)) := by
  refine ⟨bel3 w _ _ _, by simp, ?_, ?_, _, _, Acc.nil _ _ _ (by simp)⟩
  · rw [Below.heap_alloc _ _ _ (by simp)]
    have := heap_alloc_new (w.alloc a) (.cells #[.slice none 0 0] 28)
    simpa using this
  · have := heap_alloc_new ((w.alloc a).alloc (.cells #[.slice none 0 0] 28)) (.cells #[.slice none 0 0] 28)
    simpa using this
theorem Bv.add {w : World} {vo : Value} {F : Nat → Gv} {i : Nat} {W w6 w2 : World} {L : List (Fv × Value × Value)} {t : Nat → Nat} (h : Bv w vo F i W) (ha : Acc (w.heap.size + 3) vo F i L t W) (hb : Below W.heap.size W w6) {vn vk : Value} {gn gk : Nat}
    (o1 : OwnR w6 vn gn (F i).p (fun j => .string ((F i).A j))) (o2 : OwnR w6 vk gk (F i).q (fun j => .int .i64 ((F i).K j))) (h1 : 0 < (F i).p → W.heap.size ≤ gn ∧ gn < w6.heap.size) (h2 : 0 < (F i).q → W.heap.size ≤ gk ∧ gk < w6.heap.size) (h3 : 0 < (F i).p → 0 < (F i).q → gn ≠ gk)
    {o : Obj} {g cap : Nat} (ho : w2.ownsRow (w.heap.size + 3) 38 9 (.slice (some ⟨g, 0, none⟩) (i + 1) cap) (i + 1) (L.flatMap c9 ++ c9 ((F i).a, vn, vk))) (hg : (w6.alloc o).grownBy w2 vo.ownBlock) (hat : vo.ownBlock = some g ∨ g = w6.heap.size + 1) :
    (∀ b, b < w6.heap.size → vo.ownBlock ≠ some b → w2.heap[b]? = w6.heap[b]?) ∧ w2.cell? ⟨w.heap.size + 2, 0, none⟩ = some vo ∧ w2.frozen? ⟨w.heap.size + 2, 0, none⟩ = false ∧ Bv w (.slice (some ⟨g, 0, none⟩) (i + 1) cap) F (i + 1) (w2.setCell ⟨w.heap.size + 2, 0, none⟩ (.slice (some ⟨g, 0, none⟩) (i + 1) cap)) := by
  have h6 := h.below hb
  have hs := h.size
  have hws := hb.size
  have hgs := hg.size
  simp at hgs
  have hbl : ∀ b, b < w6.heap.size → vo.ownBlock ≠ some b → w2.heap[b]? = w6.heap[b]? := fun b h1 h2 => (hg.block b (by simp; omega) (fun e => h2 e.symm)).trans (Below.heap_alloc _ _ _ h1)
  have hlow : ∀ b, b < w.heap.size + 3 → w2.heap[b]? = w6.heap[b]? := fun b hb1 => hbl b (by omega) (fun e => by have := (ha.row.lt b e).1; omega)
  have hf := (hlow (w.heap.size + 2) (by omega)).trans h6.out
  have hse : ∀ b, b ≠ w.heap.size + 2 → (w2.setCell ⟨w.heap.size + 2, 0, none⟩ (.slice (some ⟨g, 0, none⟩) (i + 1) cap)).heap[b]? = w2.heap[b]? := fun b hne => Below.heap_setCell w2 _ _ _ hne
  refine ⟨hbl, by simp [World.cell?, hf], by simp [World.frozen?, hf], ⟨⟨hg.os.trans h6.bel.os, hg.tape.trans h6.bel.tape, hg.output.trans h6.bel.output, by have := h6.bel.size; simp; omega, fun b hb1 => ?_⟩, by simp; omega, ?_, ?_, _, _, (ha.add hb o1 o2 h1 h2 h3 ho hg hat).keep (by simp) (fun b hb1 _ => hse b (by omega))⟩⟩
  · rw [hse b (by omega), hlow b (by omega)]; exact h6.bel.block b hb1
  · rw [hse _ (by omega)]; exact (hlow _ (by omega)).trans h6.res
  · simp [World.setCell, Array.getElem?_modify, hf]
set_option maxRecDepth 100000 in
set_option maxHeartbeats 8000000 in
theorem impl_bare {va : Value} {n : Nat} {F : Nat → Gv} (w : World) (ha : RowF w va n F) (hn : n + smr F n ≤ 1048576) (hF : ∀ i, i < n → (F i).a.x.size ≤ 140737488355328 ∧ ∀ j, j < (F i).p → ((F i).A j).size ≤ 140737488355328) :
    Calls Try.prog 7 #[.agg #[va]] w fun e w' => ∃ v g t, e = .returned (.agg #[v]) ∧ OwnF w' v g n (fun i => bar (F i)) t w.heap.size w'.heap.size ∧ Below w.heap.size w w' := by
  obtain ⟨pa, ca, rfl, ha2⟩ := ha
  have hnI : (n : Int) ≤ 1048576 := by omega
  have HA : Hid ((0 < n → ∃ a : Addr, pa = some a ∧ n ≤ ca ∧ ∀ i, i < n → FormC w (a.add (i * 9)) (F i)) ∧ n + smr F n ≤ 1048576 ∧ ∀ i, i < n → (F i).a.x.size ≤ 140737488355328 ∧ ∀ j, j < (F i).p → ((F i).A j).size ≤ 140737488355328) := (⟨ha2, hn, hF⟩ : _ ∧ _ ∧ _)
  have H0 : Hid (Bv w (.slice none 0 0) (fun i => bar (F i)) 0 (((w.alloc (.cells #[.slice pa n ca] 28)).alloc (.cells #[.slice none 0 0] 28)).alloc (.cells #[.slice none 0 0] 28))) := Bv.start w _ _
  clear ha2 hn hF
  go_enter Try.func7, Try.ntmps7
  go_wp2_with fail
  go_loopw [9] (fun s9 wr => ∃ (i : Nat) (vo : Value), s9 = .int .i64 (i : Int) ∧ i ≤ n ∧ Hid (Bv w vo (fun i => bar (F i)) i wr)) (fun s9 _ => n - (intOf s9).toNat)
  case atStart => exact ⟨0, _, rfl, Nat.zero_le _, H0⟩
  case round =>
    clear H0
    obtain ⟨i, vo, rfl, hin, HI⟩ := hrel
    have hI := (show Bv w vo (fun i => bar (F i)) i wr from HI)
    have hA := (show (0 < n → ∃ a : Addr, pa = some a ∧ n ≤ ca ∧ ∀ i, i < n → FormC w (a.add (i * 9)) (F i)) ∧ n + smr F n ≤ 1048576 ∧ ∀ i, i < n → (F i).a.x.size ≤ 140737488355328 ∧ ∀ j, j < (F i).p → ((F i).A j).size ≤ 140737488355328 from HA)
    rcases Nat.lt_or_ge i n with hi | hi
    · have hiI : (i : Int) < (n : Int) := by omega
      obtain ⟨a, rfl, hca, hra⟩ := hA.1 (by omega)
      obtain ⟨un, uk, hc, hrn, hrk⟩ := (hra i hi).below hI.bel
      obtain ⟨d0, d1, d2, d3, d4, d5, d6, d7, d8⟩ := hc
      have hsu := smr_mono F (show i + 1 ≤ n from hi)
      have hss : smr F (i + 1) = smr F i + (F i).p + (F i).q := rfl
      obtain ⟨i0, hi0, hz0, hz1, hz2⟩ := info_parts info38
      have HI0 : Hid (Try.prog.info? 38 = some i0) := hi0
      have hsz := hI.size
      obtain ⟨pn, cn, rfl, hrn2⟩ := hrn
      obtain ⟨pk, ck, rfl, hrk2⟩ := hrk
      obtain ⟨A, hA'⟩ : ∃ A, A = wr.alloc (.cells #[.int .i64 (F i).a.k, .int .i64 (F i).a.f, .int .i64 (F i).a.t, .int .i64 (F i).a.l, .int .i64 (F i).a.o, .int .i64 (F i).a.m, .string (F i).a.x, .slice pn (F i).p cn, .slice pk (F i).q ck] 38) := ⟨_, rfl⟩
      have hbA : Below wr.heap.size wr A := by rw [hA']; exact bel1 _ _
      have hAz : A.heap.size = wr.heap.size + 1 := by rw [hA']; simp
      have hAt : A.heap[wr.heap.size]? = some (.cells #[.int .i64 (F i).a.k, .int .i64 (F i).a.f, .int .i64 (F i).a.t, .int .i64 (F i).a.l, .int .i64 (F i).a.o, .int .i64 (F i).a.m, .string (F i).a.x, .slice pn (F i).p cn, .slice pk (F i).q ck] 38 (0, 0)) := by rw [hA']; exact heap_alloc_new _ _
      have hIA := hI.below hbA
      have hrnA : RowV A (.slice pn (F i).p cn) (F i).p (fun j => .string ((F i).A j)) := (show RowV wr _ _ _ from ⟨pn, cn, rfl, hrn2⟩).below hbA
      have hrkA : RowV A (.slice pk (F i).q ck) (F i).q (fun j => .int .i64 ((F i).K j)) := (show RowV wr _ _ _ from ⟨pk, ck, rfl, hrk2⟩).below hbA
      obtain ⟨hx1, hx2⟩ := hA.2.2 i hi
      have hc14 := fun W => clone_str (F i).a.x W hx1
      have hc15 : ∀ W, Below A.heap.size A W → Calls Try.prog 15 #[.slice pn (F i).p cn] W fun e w' => ∃ v g, e = .returned v ∧ OwnR w' v g (F i).p (fun j => .string ((F i).A j)) ∧ (0 < (F i).p → W.heap.size ≤ g ∧ g < w'.heap.size) ∧ Below W.heap.size W w' := fun W hb => clone_strs W (hrnA.below hb) (by omega) hx2
      have hc16 : ∀ W, Below A.heap.size A W → Calls Try.prog 16 #[.slice pk (F i).q ck] W fun e w' => ∃ v g, e = .returned v ∧ OwnR w' v g (F i).q (fun j => .int .i64 ((F i).K j)) ∧ (0 < (F i).q → W.heap.size ≤ g ∧ g < w'.heap.size) ∧ Below W.heap.size W w' := fun W hb => clone_ints W (hrkA.below hb) (by omega)
      have HC : Hid ((∀ W, Calls Try.prog 14 #[.string (F i).a.x] W fun e w' => e = .returned (.string (F i).a.x) ∧ Below W.heap.size W w') ∧ (∀ W, Below A.heap.size A W → Calls Try.prog 15 #[.slice pn (F i).p cn] W fun e w' => ∃ v g, e = .returned v ∧ OwnR w' v g (F i).p (fun j => .string ((F i).A j)) ∧ (0 < (F i).p → W.heap.size ≤ g ∧ g < w'.heap.size) ∧ Below W.heap.size W w') ∧ (∀ W, Below A.heap.size A W → Calls Try.prog 16 #[.slice pk (F i).q ck] W fun e w' => ∃ v g, e = .returned v ∧ OwnR w' v g (F i).q (fun j => .int .i64 ((F i).K j)) ∧ (0 < (F i).q → W.heap.size ≤ g ∧ g < w'.heap.size) ∧ Below W.heap.size W w')) := (⟨hc14, hc15, hc16⟩ : _ ∧ _ ∧ _)
      obtain ⟨L, t, hacc⟩ := hIA.acc
      have hP : ∀ W', Below A.heap.size A W' → W'.cell? ⟨w.heap.size + 1 + 1, 0, none⟩ = some vo ∧ W'.cell? ⟨wr.heap.size, 0, none⟩ = some (.int .i64 (F i).a.k) ∧ W'.cell? ⟨wr.heap.size, 4, none⟩ = some (.int .i64 (F i).a.o) ∧ W'.cell? ⟨wr.heap.size, 5, none⟩ = some (.int .i64 (F i).a.m) ∧ W'.cell? ⟨wr.heap.size, 6, none⟩ = some (.string (F i).a.x) ∧ W'.cell? ⟨wr.heap.size, 7, none⟩ = some (.slice pn (F i).p cn) ∧ W'.cell? ⟨wr.heap.size, 8, none⟩ = some (.slice pk (F i).q ck) := by
        intro W' hb
        have e := (hb.block wr.heap.size (by omega)).trans hAt
        have e2 := (hb.block (w.heap.size + 2) (by omega)).trans hIA.out
        refine ⟨by simp [World.cell?, e2], ?_, ?_, ?_, ?_, ?_, ?_⟩ <;> simp [World.cell?, e]
      have HP : Hid (∀ W', Below A.heap.size A W' → W'.cell? ⟨w.heap.size + 1 + 1, 0, none⟩ = some vo ∧ W'.cell? ⟨wr.heap.size, 0, none⟩ = some (.int .i64 (F i).a.k) ∧ W'.cell? ⟨wr.heap.size, 4, none⟩ = some (.int .i64 (F i).a.o) ∧ W'.cell? ⟨wr.heap.size, 5, none⟩ = some (.int .i64 (F i).a.m) ∧ W'.cell? ⟨wr.heap.size, 6, none⟩ = some (.string (F i).a.x) ∧ W'.cell? ⟨wr.heap.size, 7, none⟩ = some (.slice pn (F i).p cn) ∧ W'.cell? ⟨wr.heap.size, 8, none⟩ = some (.slice pk (F i).q ck)) := hP
      have HSX : Hid (∀ W' : World, W'.heap[wr.heap.size]? = A.heap[wr.heap.size]? → W'.cell? ⟨wr.heap.size, 0, none⟩ = some (.int .i64 (F i).a.k) ∧ W'.cell? ⟨wr.heap.size, 4, none⟩ = some (.int .i64 (F i).a.o) ∧ W'.cell? ⟨wr.heap.size, 5, none⟩ = some (.int .i64 (F i).a.m) ∧ W'.cell? ⟨wr.heap.size, 6, none⟩ = some (.string (F i).a.x) ∧ W'.cell? ⟨wr.heap.size, 7, none⟩ = some (.slice pn (F i).p cn) ∧ W'.cell? ⟨wr.heap.size, 8, none⟩ = some (.slice pk (F i).q ck)) := (fun W' e => by
        rw [hAt] at e
        refine ⟨?_, ?_, ?_, ?_, ?_, ?_⟩ <;> simp [World.cell?, e] : ∀ W', _)
      have HADD : Hid (∀ (w4 w5 w6 : World) (pn2 : Option Addr) (cn2 gn : Nat) (pk2 : Option Addr) (ck2 gk : Nat), Below A.heap.size A w4 → OwnR w5 (.slice pn2 (F i).p cn2) gn (F i).p (fun j => .string ((F i).A j)) → (0 < (F i).p → w4.heap.size ≤ gn ∧ gn < w5.heap.size) → Below w4.heap.size w4 w5 → OwnR w6 (.slice pk2 (F i).q ck2) gk (F i).q (fun j => .int .i64 ((F i).K j)) → (0 < (F i).q → w5.heap.size ≤ gk ∧ gk < w6.heap.size) → Below w5.heap.size w5 w6 →
          ∀ (o : Obj) (g cap : Nat) (w7 : World), w7.ownsRow (w.heap.size + 3) 38 9 (.slice (some ⟨g, 0, none⟩) (i + 1) cap) (i + 1) (L.flatMap c9 ++ [.int .i64 (F i).a.k, .int .i64 0, .int .i64 0, .int .i64 0, .int .i64 (F i).a.o, .int .i64 (F i).a.m, .string (F i).a.x, .slice pn2 (F i).p cn2, .slice pk2 (F i).q ck2]) → (w6.alloc o).grownBy w7 vo.ownBlock → (vo.ownBlock = some g ∨ g = w6.heap.size + 1) →
          (w7.cell? ⟨wr.heap.size, 0, none⟩ = some (.int .i64 (F i).a.k) ∧ w7.cell? ⟨wr.heap.size, 4, none⟩ = some (.int .i64 (F i).a.o) ∧ w7.cell? ⟨wr.heap.size, 5, none⟩ = some (.int .i64 (F i).a.m) ∧ w7.cell? ⟨wr.heap.size, 6, none⟩ = some (.string (F i).a.x) ∧ w7.cell? ⟨wr.heap.size, 7, none⟩ = some (.slice pn (F i).p cn) ∧ w7.cell? ⟨wr.heap.size, 8, none⟩ = some (.slice pk (F i).q ck)) ∧ w7.cell? ⟨w.heap.size + 1 + 1, 0, none⟩ = some vo ∧ w7.frozen? ⟨w.heap.size + 1 + 1, 0, none⟩ = false ∧ Bv w (.slice (some ⟨g, 0, none⟩) (i + 1) cap) (fun i => bar (F i)) (i + 1) (w7.setCell ⟨w.heap.size + 1 + 1, 0, none⟩ (.slice (some ⟨g, 0, none⟩) (i + 1) cap)) ∧ ∀ u, ((w7.setCell ⟨w.heap.size + 1 + 1, 0, none⟩ u).cell? ⟨wr.heap.size, 0, none⟩ = some (.int .i64 (F i).a.k) ∧ (w7.setCell ⟨w.heap.size + 1 + 1, 0, none⟩ u).cell? ⟨wr.heap.size, 4, none⟩ = some (.int .i64 (F i).a.o) ∧ (w7.setCell ⟨w.heap.size + 1 + 1, 0, none⟩ u).cell? ⟨wr.heap.size, 5, none⟩ = some (.int .i64 (F i).a.m) ∧ (w7.setCell ⟨w.heap.size + 1 + 1, 0, none⟩ u).cell? ⟨wr.heap.size, 6, none⟩ = some (.string (F i).a.x) ∧ (w7.setCell ⟨w.heap.size + 1 + 1, 0, none⟩ u).cell? ⟨wr.heap.size, 7, none⟩ = some (.slice pn (F i).p cn) ∧ (w7.setCell ⟨w.heap.size + 1 + 1, 0, none⟩ u).cell? ⟨wr.heap.size, 8, none⟩ = some (.slice pk (F i).q ck))) := (fun w4 w5 w6 pn2 cn2 gn pk2 ck2 gk b4 on hgn b5 ok hgk b6 o g cap w7 hown hgr hat => by
        have b6' : Below A.heap.size A w6 := (b4.trans (b5.mono b4.size)).trans (b6.mono (Nat.le_trans b4.size b5.size))
        have z4 := b4.size
        have z5 := b5.size
        have z6 := b6.size
        obtain ⟨q0, q1, q2, q3⟩ := Bv.add (F := fun i => bar (F i)) hIA hacc b6' (vn := .slice pn2 (F i).p cn2) (vk := .slice pk2 (F i).q ck2) (on.block (fun hp => b6.block gn (hgn hp).2)) ok (fun hp => by have := hgn hp; show A.heap.size ≤ gn ∧ gn < w6.heap.size; omega) (fun hp => by have := hgk hp; show A.heap.size ≤ gk ∧ gk < w6.heap.size; omega) (fun hp hq => by have := hgn hp; have := hgk hq; omega) hown hgr hat
        have hnb : vo.ownBlock ≠ some wr.heap.size := fun e => by
          rcases hI.acc with ⟨L', t', ha'⟩
          have := (ha'.row.lt _ e).2
          omega
        have e7 : w7.heap[wr.heap.size]? = A.heap[wr.heap.size]? := (q0 _ (by omega) hnb).trans (b6'.block _ (by omega))
        refine ⟨(show ∀ W', _ from HSX) w7 e7, q1, q2, q3, fun u => (show ∀ W', _ from HSX) (w7.setCell ⟨w.heap.size + 1 + 1, 0, none⟩ u) ((Below.heap_setCell w7 _ _ _ (by show wr.heap.size ≠ w.heap.size + 1 + 1; omega)).trans e7)⟩ : ∀ w4 w5 w6 pn2 cn2 gn pk2 ck2 gk, _)
      have howna : ∀ W', Below A.heap.size A W' → ∀ o : Obj, (W'.alloc o).ownsRow (w.heap.size + 3) 38 9 vo i (L.flatMap c9) := fun W' hb o => (hacc.below hb).row.alloc o
      have HOWN : Hid (∀ W', Below A.heap.size A W' → ∀ o : Obj, (W'.alloc o).ownsRow (w.heap.size + 3) 38 9 vo i (L.flatMap c9)) := howna
      have HZ : Hid (wr.heap.size < A.heap.size ∧ w.heap.size + 3 ≤ A.heap.size) := (⟨by omega, by omega⟩ : _ ∧ _)
      have h1c : ∀ pn2 cn2 pk2 ck2, ∀ u ∈ [(.int .i64 (F i).a.k : Value), .int .i64 0, .int .i64 0, .int .i64 0, .int .i64 (F i).a.o, .int .i64 (F i).a.m, .string (F i).a.x, .slice pn2 (F i).p cn2, .slice pk2 (F i).q ck2], u.oneCell' = true := by
        intro pn2 cn2 pk2 ck2 u hu; simp at hu; rcases hu with rfl | rfl | rfl | rfl | rfl | rfl | rfl | rfl | rfl <;> rfl
      have H1C : Hid (_) := h1c
      clear howna h1c hacc hIA hbA hAz hAt
      obtain ⟨oA, s0⟩ := hP A (Below.refl _ _)
      rw [hA'] at oA s0
      clear hP
      clear hI HI hA HA hra hsu hss hi0 hc14 hc15 hc16 hx1 hx2 hrn2 hrk2 hrnA hrkA
      go_wp2_with fail
      rw [← hA']
      rw [← hA'] at oA s0
      have HAA : Hid (A = wr.alloc (.cells #[.int .i64 (F i).a.k, .int .i64 (F i).a.f, .int .i64 (F i).a.t, .int .i64 (F i).a.l, .int .i64 (F i).a.o, .int .i64 (F i).a.m, .string (F i).a.x, .slice pn (F i).p cn, .slice pk (F i).q ck] 38)) := hA'
      clear hA' d0 d1 d2 d3 d4 d5 d6 d7 d8
      refine AnyL.region (S := fun W' => W'.cell? ⟨w.heap.size + 1 + 1, 0, none⟩ = some vo ∧ W'.cell? ⟨wr.heap.size, 0, none⟩ = some (.int .i64 (F i).a.k) ∧ W'.cell? ⟨wr.heap.size, 4, none⟩ = some (.int .i64 (F i).a.o) ∧ W'.cell? ⟨wr.heap.size, 5, none⟩ = some (.int .i64 (F i).a.m) ∧ W'.cell? ⟨wr.heap.size, 6, none⟩ = some (.string (F i).a.x) ∧ W'.cell? ⟨wr.heap.size, 7, none⟩ = some (.slice pn (F i).p cn) ∧ W'.cell? ⟨wr.heap.size, 8, none⟩ = some (.slice pk (F i).q ck)) (z := 21) (by kernel_rfl) ?_
      have hS0 : (fun W' : World => W'.cell? ⟨w.heap.size + 1 + 1, 0, none⟩ = some vo ∧ W'.cell? ⟨wr.heap.size, 0, none⟩ = some (.int .i64 (F i).a.k) ∧ W'.cell? ⟨wr.heap.size, 4, none⟩ = some (.int .i64 (F i).a.o) ∧ W'.cell? ⟨wr.heap.size, 5, none⟩ = some (.int .i64 (F i).a.m) ∧ W'.cell? ⟨wr.heap.size, 6, none⟩ = some (.string (F i).a.x) ∧ W'.cell? ⟨wr.heap.size, 7, none⟩ = some (.slice pn (F i).p cn) ∧ W'.cell? ⟨wr.heap.size, 8, none⟩ = some (.slice pk (F i).q ck)) A.drew := (⟨oA, s0⟩ : _ ∧ _)
      have HKQ : Hid (∀ W', Below A.heap.size A W' → W'.cell? ⟨w.heap.size + 1 + 1, 0, none⟩ = some vo ∧ W'.cell? ⟨wr.heap.size, 0, none⟩ = some (.int .i64 (F i).a.k) ∧ W'.cell? ⟨wr.heap.size, 4, none⟩ = some (.int .i64 (F i).a.o) ∧ W'.cell? ⟨wr.heap.size, 5, none⟩ = some (.int .i64 (F i).a.m) ∧ W'.cell? ⟨wr.heap.size, 6, none⟩ = some (.string (F i).a.x) ∧ W'.cell? ⟨wr.heap.size, 7, none⟩ = some (.slice pn (F i).p cn) ∧ W'.cell? ⟨wr.heap.size, 8, none⟩ = some (.slice pk (F i).q ck)) := HP
      refine AnyL.takeAt 0 (.pointer (some ⟨w.heap.size + 1 + 1, 0, none⟩)) rfl (by kernel_rfl) (by kernel_rfl) (by kernel_rfl) (by kernel_rfl) (fun _ _ _ h => h) rfl hS0 (by intro W hW; go_simp) ?_
      simp only [Act.put, List.setIfInBounds_toArray, List.set_cons_zero, List.set_cons_succ]
      refine AnyL.takeAt 1 (vo) rfl (by kernel_rfl) (by kernel_rfl) (by kernel_rfl) (by kernel_rfl) (fun _ _ _ h => h) rfl hS0 (by intro W hW; go_simp) ?_
      simp only [Act.put, List.setIfInBounds_toArray, List.set_cons_zero, List.set_cons_succ]
      refine AnyL.takeAt 2 (.pointer (some ⟨wr.heap.size, 0, none⟩)) rfl (by kernel_rfl) (by kernel_rfl) (by kernel_rfl) (by kernel_rfl) (fun _ _ _ h => h) rfl hS0 (by intro W hW; go_simp) ?_
      simp only [Act.put, List.setIfInBounds_toArray, List.set_cons_zero, List.set_cons_succ]
      refine AnyL.takeAt 3 (.int .i64 (F i).a.k) rfl (by kernel_rfl) (by kernel_rfl) (by kernel_rfl) (by kernel_rfl) (fun _ _ _ h => h) rfl hS0 (by intro W hW; go_simp) ?_
      simp only [Act.put, List.setIfInBounds_toArray, List.set_cons_zero, List.set_cons_succ]
      refine AnyL.takeAt 4 (.pointer (some ⟨wr.heap.size, 4, none⟩)) rfl (by kernel_rfl) (by kernel_rfl) (by kernel_rfl) (by kernel_rfl) (fun _ _ _ h => h) rfl hS0 (by intro W hW; go_simp) ?_
      simp only [Act.put, List.setIfInBounds_toArray, List.set_cons_zero, List.set_cons_succ]
      refine AnyL.takeAt 5 (.int .i64 (F i).a.o) rfl (by kernel_rfl) (by kernel_rfl) (by kernel_rfl) (by kernel_rfl) (fun _ _ _ h => h) rfl hS0 (by intro W hW; go_simp) ?_
      simp only [Act.put, List.setIfInBounds_toArray, List.set_cons_zero, List.set_cons_succ]
      refine AnyL.takeAt 6 (.pointer (some ⟨wr.heap.size, 5, none⟩)) rfl (by kernel_rfl) (by kernel_rfl) (by kernel_rfl) (by kernel_rfl) (fun _ _ _ h => h) rfl hS0 (by intro W hW; go_simp) ?_
      simp only [Act.put, List.setIfInBounds_toArray, List.set_cons_zero, List.set_cons_succ]
      refine AnyL.takeAt 7 (.int .i64 (F i).a.m) rfl (by kernel_rfl) (by kernel_rfl) (by kernel_rfl) (by kernel_rfl) (fun _ _ _ h => h) rfl hS0 (by intro W hW; go_simp) ?_
      simp only [Act.put, List.setIfInBounds_toArray, List.set_cons_zero, List.set_cons_succ]
      refine AnyL.takeAt 8 (.pointer (some ⟨wr.heap.size, 6, none⟩)) rfl (by kernel_rfl) (by kernel_rfl) (by kernel_rfl) (by kernel_rfl) (fun _ _ _ h => h) rfl hS0 (by intro W hW; go_simp) ?_
      simp only [Act.put, List.setIfInBounds_toArray, List.set_cons_zero, List.set_cons_succ]
      refine AnyL.takeAt 9 (.string (F i).a.x) rfl (by kernel_rfl) (by kernel_rfl) (by kernel_rfl) (by kernel_rfl) (fun _ _ _ h => h) rfl hS0 (by intro W hW; go_simp) ?_
      simp only [Act.put, List.setIfInBounds_toArray, List.set_cons_zero, List.set_cons_succ]
      refine AnyL.takeAt 11 (.pointer (some ⟨wr.heap.size, 7, none⟩)) rfl (by kernel_rfl) (by kernel_rfl) (by kernel_rfl) (by kernel_rfl) (fun _ _ _ h => h) rfl hS0 (by intro W hW; go_simp) ?_
      simp only [Act.put, List.setIfInBounds_toArray, List.set_cons_zero, List.set_cons_succ]
      refine AnyL.takeAt 12 (.slice pn (F i).p cn) rfl (by kernel_rfl) (by kernel_rfl) (by kernel_rfl) (by kernel_rfl) (fun _ _ _ h => h) rfl hS0 (by intro W hW; go_simp) ?_
      simp only [Act.put, List.setIfInBounds_toArray, List.set_cons_zero, List.set_cons_succ]
      refine AnyL.takeAt 14 (.pointer (some ⟨wr.heap.size, 8, none⟩)) rfl (by kernel_rfl) (by kernel_rfl) (by kernel_rfl) (by kernel_rfl) (fun _ _ _ h => h) rfl hS0 (by intro W hW; go_simp) ?_
      simp only [Act.put, List.setIfInBounds_toArray, List.set_cons_zero, List.set_cons_succ]
      refine AnyL.takeAt 15 (.slice pk (F i).q ck) rfl (by kernel_rfl) (by kernel_rfl) (by kernel_rfl) (by kernel_rfl) (fun _ _ _ h => h) rfl hS0 (by intro W hW; go_simp) ?_
      simp only [Act.put, List.setIfInBounds_toArray, List.set_cons_zero, List.set_cons_succ]
      refine AnyL.oneAt 10 rfl (by kernel_rfl) rfl ?_
      intro K hK
      go_simp
      refine (HC.1 _).mono ?_
      rintro e w4 ⟨rfl, hb4⟩
      have B4 : Below A.heap.size A w4 := ⟨hb4.os, hb4.tape, hb4.output, hb4.size, hb4.block⟩
      have s4 := (show ∀ W', Below A.heap.size A W' → _ from HKQ) w4 B4
      clear hb4
      refine hK.out _ _ (fun _ => s4) ?_
      clear hK K hS0

      refine AnyL.oneAt 13 rfl (by kernel_rfl) rfl ?_
      intro K hK
      go_simp
      refine (HC.2.1 _ B4).mono ?_
      rintro e w5 ⟨vn, gn, rfl, on, hgn, hb5⟩
      have B5 : Below A.heap.size A w5 := B4.trans (hb5.mono B4.size)
      have s5 := (show ∀ W', Below A.heap.size A W' → _ from HKQ) w5 B5
      obtain ⟨pn2, cn2, rfl, _⟩ := on.sl
      refine hK.out _ _ (fun _ => s5) ?_
      clear hK K s4

      refine AnyL.oneAt 16 rfl (by kernel_rfl) rfl ?_
      intro K hK
      go_simp
      refine (HC.2.2 _ B5).mono ?_
      rintro e w6 ⟨vk, gk, rfl, ok, hgk, hb6⟩
      have B6 : Below A.heap.size A w6 := B5.trans (hb6.mono B5.size)
      have s6 := (show ∀ W', Below A.heap.size A W' → _ from HKQ) w6 B6
      obtain ⟨pk2, ck2, rfl, _⟩ := ok.sl
      refine hK.out _ _ (fun _ => s6) ?_
      clear hK K s5

      refine AnyL.takeAt 17 (.agg #[.int .i64 (F i).a.k, .int .i64 0, .int .i64 0, .int .i64 0, .int .i64 (F i).a.o, .int .i64 (F i).a.m, .string (F i).a.x, .slice pn2 (F i).p cn2, .slice pk2 (F i).q ck2]) rfl (by kernel_rfl) (by kernel_rfl) (by kernel_rfl) (by kernel_rfl) (fun _ _ _ h => h) rfl s6 (by intro W hW; go_simp) ?_
      simp only [Act.put, List.setIfInBounds_toArray, List.set_cons_zero, List.set_cons_succ]
      refine AnyL.oneAt 18 rfl (by kernel_rfl) rfl ?_
      intro K hK
      go_simp
      refine hK.out _ _ (fun _ => (show ∀ W', Below A.heap.size A W' → _ from HKQ) _ (B6.alloc B6.size _)) ?_
      clear hK K
      refine AnyL.oneAt 19 rfl (by kernel_rfl) rfl ?_
      intro K hK
      refine wp_append_lies _ (.tmp 14) (.tmp 31) 26 rfl (w.heap.size + 3) 38 i0 z9 9 112 Try.underlying26 HI0 hz0 hz1 hz2 rfl (by decide) vo i (L.flatMap c9) rfl ((show ∀ W', Below A.heap.size A W' → _ from HOWN) w6 B6 _) ⟨w6.heap.size, 0, none⟩ 1 1 [.int .i64 (F i).a.k, .int .i64 0, .int .i64 0, .int .i64 0, .int .i64 (F i).a.o, .int .i64 (F i).a.m, .string (F i).a.x, .slice pn2 (F i).p cn2, .slice pk2 (F i).q ck2] rfl rfl (qr_cells w6 _ 38 _ rfl) (H1C _ _ _ _) (by decide) (by unfold maxLen; omega) (by omega) (by have := B6.size; have := HZ.2; simp; omega) (w6.heap.size + 1) (by simp) ?_
      intro g cap w7 hown hgrow hat hlt
      obtain ⟨s7, o7, f7, hfin, _⟩ := (show ∀ (w4 w5 w6 : World) (pn2 : Option Addr) (cn2 gn : Nat) (pk2 : Option Addr) (ck2 gk : Nat), _ from HADD) w4 w5 w6 pn2 cn2 gn pk2 ck2 gk B4 on hgn hb5 ok hgk hb6 _ g cap w7 hown hgrow hat
      have HFIN : Hid (Bv w (.slice (some ⟨g, 0, none⟩) (i + 1) cap) (fun i => bar (F i)) (i + 1) (w7.setCell ⟨w.heap.size + 1 + 1, 0, none⟩ (.slice (some ⟨g, 0, none⟩) (i + 1) cap))) := hfin
      refine hK.out _ _ (fun _ => ⟨o7, s7⟩) ?_
      clear hK K s6 hfin hown hgrow hat hlt
      simp only [Act.put, List.setIfInBounds_toArray, List.set_cons_zero, List.set_cons_succ]
      refine AnyL.takeAt 20 (.pointer (some ⟨w.heap.size + 1 + 1, 0, none⟩)) rfl (by kernel_rfl) (by kernel_rfl) (by kernel_rfl) (by kernel_rfl) (fun _ _ _ h => h) rfl ⟨o7, s7⟩ (by intro W hW; go_simp) ?_
      simp only [Act.put, List.setIfInBounds_toArray, List.set_cons_zero, List.set_cons_succ]
      refine AnyL.oneAt 21 rfl (by kernel_rfl) rfl ?_
      intro K hK
      go_simp
      refine hK.out _ _ (fun h => absurd rfl h) ?_
      clear hK K
      refine AnyL.done (by kernel_rfl) ?_
      clear HADD HOWN HSX HC HP HKQ H1C on ok hb5 hb6 B4 B5 B6 s7 o7 f7 hgn hgk
      go_wp2_with fail
      exact ⟨⟨i + 1, _, by go_num, by omega, HFIN⟩, by simp [intOf]; omega⟩
    · obtain rfl : i = n := by omega
      have hshape : ∃ (ad : Option Addr) (nn cap : Nat), vo = .slice ad nn cap := by
        obtain ⟨L, t, ha'⟩ := hI.acc
        rcases ha'.row.2 with ⟨h1, _⟩ | ⟨g2, cap, cur, e3, _⟩
        · exact ⟨none, 0, 0, h1⟩
        · exact ⟨_, _, _, e3⟩
      obtain ⟨ad, nn, cap, rfl⟩ := hshape
      have oA : wr.cell? ⟨w.heap.size + 1 + 1, 0, none⟩ = some (.slice ad nn cap) := by have := hI.out; simp [World.cell?, this]
      have rA : wr.cell? ⟨w.heap.size + 1, 0, none⟩ = some (.slice none 0 0) := by have := hI.res; simp [World.cell?, this]
      have fA : wr.frozen? ⟨w.heap.size + 1, 0, none⟩ = false := by have := hI.res; simp [World.frozen?, this]
      have e0 : (wr.setCell ⟨w.heap.size + 1, 0, none⟩ (.slice ad nn cap)).cell? ⟨w.heap.size + 1, 0, none⟩ = some (.slice ad nn cap) := set_eq _ _ _ _ _ rA
      have HF : Hid (∃ v g t, Ending.returned (.agg #[.slice ad nn cap]) = .returned (.agg #[v]) ∧ OwnF (wr.setCell ⟨w.heap.size + 1, 0, none⟩ (.slice ad nn cap)) v g i (fun i => bar (F i)) t w.heap.size (wr.setCell ⟨w.heap.size + 1, 0, none⟩ (.slice ad nn cap)).heap.size ∧ Below w.heap.size w (wr.setCell ⟨w.heap.size + 1, 0, none⟩ (.slice ad nn cap))) := by
        show ∃ v g t, _
        obtain ⟨L, t, ha'⟩ := hI.acc
        obtain ⟨g, hg⟩ := (ha'.keep (W' := wr.setCell ⟨w.heap.size + 1, 0, none⟩ (.slice ad nn cap)) (by simp) (fun b hb _ => Below.heap_setCell wr _ _ _ (by show b ≠ w.heap.size + 1; omega))).own (lo := w.heap.size) (hi := (wr.setCell ⟨w.heap.size + 1, 0, none⟩ (.slice ad nn cap)).heap.size) (by omega) (Nat.le_refl _)
        exact ⟨_, g, t, rfl, hg, hI.bel.setCell (by show w.heap.size ≤ w.heap.size + 1; omega) _⟩
      have E0 : Hid _ := e0
      clear hI HI hA HA e0
      go_wp2_with fail
      have e0 := (show (wr.setCell ⟨w.heap.size + 1, 0, none⟩ (.slice ad nn cap)).cell? ⟨w.heap.size + 1, 0, none⟩ = some (.slice ad nn cap) from E0)
      refine bodyPost_ret (by simp [results, Try.results7, go_sem, e0]; rfl) rfl ?_
      exact HF
end Go.Proofs.Ytgpbmmhfhjobkaa
