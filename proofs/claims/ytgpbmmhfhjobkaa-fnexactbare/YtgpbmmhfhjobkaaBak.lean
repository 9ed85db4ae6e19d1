import Derived.Test.YtgpbmmhfhjobkaaBaj
namespace Go.Proofs.Ytgpbmmhfhjobkaa
open Go.ChangeShapes Go.WideShapes Go.ChangeAt Go.RowKit
set_option linter.unusedVariables false
/-- all is kept but the cells lo to hi of block g and the blocks in S -/
structure Kc (g lo hi : Nat) (S : Nat → Prop) (a w : World) : Prop where
  os : w.os = a.os
  tape : w.tape = a.tape
  output : w.output = a.output
  size : a.heap.size ≤ w.heap.size
  block : ∀ k, k < a.heap.size → k ≠ g → ¬ S k → w.heap[k]? = a.heap[k]?
  cell : ∀ o, ¬ (lo ≤ o ∧ o < hi) → w.cell? ⟨g, o, none⟩ = a.cell? ⟨g, o, none⟩
  fz : ∀ o, w.frozen? ⟨g, o, none⟩ = a.frozen? ⟨g, o, none⟩
theorem Kc.refl (g lo hi : Nat) (S : Nat → Prop) (a : World) : Kc g lo hi S a a := ⟨rfl, rfl, rfl, Nat.le_refl _, fun _ _ _ _ => rfl, fun _ _ => rfl, fun _ => rfl⟩
theorem Kc.set {g lo hi : Nat} {S : Nat → Prop} {a w : World} (h : Kc g lo hi S a w) (o : Nat) (h1 : lo ≤ o) (h2 : o < hi) (v : Value) : Kc g lo hi S a (w.setCell ⟨g, o, none⟩ v) :=
  ⟨h.os, h.tape, h.output, by simpa using h.size, fun k hk hg hs => (Below.heap_setCell w _ v k hg).trans (h.block k hk hg hs),
    fun o' ho => (set_ne _ _ _ _ _ (fun e => ho (by omega))).trans (h.cell o' ho), fun o' => (set_fz _ _ _ _ _).trans (h.fz o')⟩
theorem Kc.kq {g lo hi : Nat} {S T : Nat → Prop} {a w w' : World} (h : Kc g lo hi S a w) (hq : Kq T w w') (hT : ∀ k, T k → S k ∧ k ≠ g) (hg : g < a.heap.size) : Kc g lo hi S a w' := by
  have hgw : w'.heap[g]? = w.heap[g]? := hq.block g (Nat.lt_of_lt_of_le hg h.size) (fun e => (hT g e).2 rfl)
  exact ⟨hq.os.trans h.os, hq.tape.trans h.tape, hq.output.trans h.output, Nat.le_trans h.size hq.size,
    fun k hk hn hs => (hq.block k (Nat.lt_of_lt_of_le hk h.size) (fun e => hs (hT k e).1)).trans (h.block k hk hn hs),
    fun o ho => (World.cell?_of_block hgw).trans (h.cell o ho), fun o => (World.frozen?_of_block hgw).trans (h.fz o)⟩
theorem Kc.below {g lo hi : Nat} {S : Nat → Prop} {a w w' : World} (h : Kc g lo hi S a w) (hb : Below w.heap.size w w') (hg : g < a.heap.size) : Kc g lo hi S a w' :=
  h.kq (T := fun _ => False) (Kq.of_below hb (Nat.le_refl _)) (fun _ f => f.elim) hg
theorem add0 (g i : Nat) : (⟨g, 0, none⟩ : Addr).add i = ⟨g, i, none⟩ := by
  by_cases e : i = 0
  · subst e; rfl
  · simp [Addr.add, e]
/-- form i of a sheet in block g, its rows in blocks of their own from lo to hi -/
def FormO (W : World) (g i : Nat) (f : Gv) (lo hi : Nat) : Prop :=
  ∃ vn vk gn gk, Cel9 W ⟨g, i * 9, none⟩ f.a vn vk ∧ OwnR W vn gn f.p (fun j => .string (f.A j)) ∧ OwnR W vk gk f.q (fun j => .int .i64 (f.K j)) ∧
    (0 < f.p → lo ≤ gn ∧ gn < hi ∧ gn ≠ g) ∧ (0 < f.q → lo ≤ gk ∧ gk < hi ∧ gk ≠ g) ∧ (0 < f.p → 0 < f.q → gn ≠ gk)
theorem FormO.kc {W W' : World} {g i j : Nat} {f : Gv} {lo hi : Nat} {S : Nat → Prop} (h : FormO W g j f lo hi) (k : Kc g (i * 9) (i * 9 + 9) S W W') (hij : j ≠ i) (hS : ∀ b, lo ≤ b → b < hi → ¬ S b) : FormO W' g j f lo hi := by
  obtain ⟨vn, vk, gn, gk, hc, h1, h2, b1, b2, b3⟩ := h
  refine ⟨vn, vk, gn, gk, ?_, h1.block ?_, h2.block ?_, b1, b2, b3⟩
  · obtain ⟨c0, c1, c2, c3, c4, c5, c6, c7, c8⟩ := hc
    have e : ∀ c, c < 9 → W'.cell? ⟨g, j * 9 + c, none⟩ = W.cell? ⟨g, j * 9 + c, none⟩ := fun c hc => k.cell _ (by omega)
    exact ⟨(e 0 (by omega)).trans c0, (e 1 (by omega)).trans c1, (e 2 (by omega)).trans c2, (e 3 (by omega)).trans c3, (e 4 (by omega)).trans c4, (e 5 (by omega)).trans c5, (e 6 (by omega)).trans c6, (e 7 (by omega)).trans c7, (e 8 (by omega)).trans c8⟩
  · intro hp
    obtain ⟨q1, q2, q3⟩ := b1 hp
    exact k.block gn (lt_of_cell (h1.cell 0 hp)) q3 (hS gn q1 q2)
  · intro hp
    obtain ⟨q1, q2, q3⟩ := b2 hp
    exact k.block gk (lt_of_cell (h2.cell 0 hp)) q3 (hS gk q1 q2)
/-- a sheet's forms in a block of their own, with rows of their own, all between lo and hi -/
structure OwnF (W : World) (v : Value) (g n : Nat) (F : Nat → Gv) (t : Nat → Nat) (lo hi : Nat) : Prop where
  sl : ∃ pa cap, v = .slice pa n cap ∧ (0 < n → pa = some ⟨g, 0, none⟩ ∧ n ≤ cap)
  frm : ∀ i, i < n → FormO W g i (F i) (t i) (t (i + 1))
  fz : 0 < n → ∀ j, W.frozen? ⟨g, j, none⟩ = false
  up : ∀ i j, i ≤ j → j ≤ n → t i ≤ t j
  bg : 0 < n → lo ≤ g ∧ g < hi
  b0 : lo ≤ t 0
  bn : t n ≤ hi
theorem OwnF.row {W : World} {v : Value} {g n : Nat} {F : Nat → Gv} {t : Nat → Nat} {lo hi : Nat} (h : OwnF W v g n F t lo hi) : RowF W v n F := by
  obtain ⟨pa, cap, h1, h2⟩ := h.sl
  refine ⟨pa, cap, h1, fun hn => ⟨⟨g, 0, none⟩, (h2 hn).1, (h2 hn).2, fun i hi => ?_⟩⟩
  obtain ⟨vn, vk, gn, gk, hc, o1, o2, _⟩ := h.frm i hi
  rw [add0]
  exact ⟨vn, vk, hc, o1.row, o2.row⟩
theorem OwnF.lt {W : World} {v : Value} {g n : Nat} {F : Nat → Gv} {t : Nat → Nat} {lo hi : Nat} (h : OwnF W v g n F t lo hi) (hn : 0 < n) : g < W.heap.size := by
  obtain ⟨vn, vk, gn, gk, hc, o1, o2, _⟩ := h.frm 0 hn
  exact lt_of_cell hc.c0
theorem OwnF.keep {W W' : World} {v : Value} {g n : Nat} {F : Nat → Gv} {t : Nat → Nat} {lo hi : Nat} (h : OwnF W v g n F t lo hi) (hb : ∀ b, lo ≤ b → b < hi → b < W.heap.size → W'.heap[b]? = W.heap[b]?) : OwnF W' v g n F t lo hi := by
  refine ⟨h.sl, fun i hi => ?_, fun hn j => ?_, h.up, h.bg, h.b0, h.bn⟩
  · obtain ⟨vn, vk, gn, gk, hc, h1, h2, b1, b2, b3⟩ := h.frm i hi
    have hn : 0 < n := by omega
    have hgb := hb g (h.bg hn).1 (h.bg hn).2 (h.lt hn)
    have u0 := h.up 0 i (by omega) (by omega)
    have u1 := h.up (i + 1) n (by omega) (by omega)
    have u2 := h.b0
    have u3 := h.bn
    refine ⟨vn, vk, gn, gk, ?_, h1.block ?_, h2.block ?_, b1, b2, b3⟩
    · obtain ⟨c0, c1, c2, c3, c4, c5, c6, c7, c8⟩ := hc
      have e : ∀ c, W'.cell? ⟨g, c, none⟩ = W.cell? ⟨g, c, none⟩ := fun c => World.cell?_of_block hgb
      exact ⟨(e _).trans c0, (e _).trans c1, (e _).trans c2, (e _).trans c3, (e _).trans c4, (e _).trans c5, (e _).trans c6, (e _).trans c7, (e _).trans c8⟩
    · intro hp
      obtain ⟨q1, q2, q3⟩ := b1 hp
      exact hb gn (by omega) (by omega) (lt_of_cell (h1.cell 0 hp))
    · intro hp
      obtain ⟨q1, q2, q3⟩ := b2 hp
      exact hb gk (by omega) (by omega) (lt_of_cell (h2.cell 0 hp))
  · rw [World.frozen?_of_block (hb g (h.bg hn).1 (h.bg hn).2 (h.lt hn))]; exact h.fz hn j
/-- where the marks of form i begin -/
def kst (F : Nat → Gv) (k i : Nat) : Nat := k + 7 * i + smr F i
/-- form i with its marks -/
def mkf (F : Nat → Gv) (k i : Nat) : Gv :=
  ⟨⟨(kst F k i : Int), (kst F k i : Int) + 1, (kst F k i : Int) + 2, (kst F k i : Int) + 3, (kst F k i : Int) + 4, (kst F k i : Int) + 5, mtx (kst F k i + 6)⟩, (F i).p, fun j => mtx (kst F k i + 7 + j), (F i).q, fun j => ((kst F k i + 7 + (F i).p : Nat) : Int) + (j : Int)⟩
/-- the first i forms marked -/
def mix (F : Nat → Gv) (k i j : Nat) : Gv := if j < i then mkf F k j else F j
theorem kst_succ (F : Nat → Gv) (k i : Nat) : kst F k (i + 1) = kst F k i + 7 + (F i).p + (F i).q := by
  unfold kst
  show k + 7 * (i + 1) + (smr F i + (F i).p + (F i).q) = _
  omega
theorem smr_mono (F : Nat → Gv) {i n : Nat} (h : i ≤ n) : smr F i ≤ smr F n := by
  induction n with
  | zero => obtain rfl : i = 0 := by omega
            exact Nat.le_refl _
  | succ n ih =>
    by_cases e : i = n + 1
    · subst e; exact Nat.le_refl _
    · have := ih (by omega)
      show _ ≤ smr F n + (F n).p + (F n).q
      omega
theorem OwnF.mark {W W' : World} {v : Value} {g n k i : Nat} {F : Nat → Gv} {t : Nat → Nat} {lo hi : Nat} (h : OwnF W v g n (mix F k i) t lo hi) (hi' : i < n)
    (hk : Kc g (i * 9) (i * 9 + 9) (fun b => t i ≤ b ∧ b < t (i + 1)) W W') (hf : FormO W' g i (mkf F k i) (t i) (t (i + 1))) : OwnF W' v g n (mix F k (i + 1)) t lo hi := by
  refine ⟨h.sl, fun j hj => ?_, fun hn j => (hk.fz j).trans (h.fz hn j), h.up, h.bg, h.b0, h.bn⟩
  by_cases e : j = i
  · subst e
    rw [show mix F k (j + 1) j = mkf F k j from if_pos (by omega)]
    exact hf
  · have e2 : mix F k (i + 1) j = mix F k i j := by
      unfold mix
      by_cases l : j < i
      · rw [if_pos l, if_pos (by omega)]
      · rw [if_neg l, if_neg (by omega)]
    rw [e2]
    refine (h.frm j hj).kc hk e (fun b h1 h2 h3 => ?_)
    rcases Nat.lt_or_ge j i with l | l
    · have := h.up (j + 1) i (by omega) (by omega)
      omega
    · have := h.up (i + 1) j (by omega) (by omega)
      omega
theorem mkq {g i lo hi : Nat} {t : Nat → Nat} {n : Nat} {W W' w : World} (h : Kq (fun b => lo ≤ b ∧ b < hi) w W) (hk : Kc g (i * 9) (i * 9 + 9) (fun b => t i ≤ b ∧ b < t (i + 1)) W W') (hg : lo ≤ g ∧ g < hi) (h1 : lo ≤ t i) (h2 : t (i + 1) ≤ hi) : Kq (fun b => lo ≤ b ∧ b < hi) w W' :=
  ⟨hk.os.trans h.os, hk.tape.trans h.tape, hk.output.trans h.output, Nat.le_trans h.size hk.size, fun b hb hn => (hk.block b (Nat.lt_of_lt_of_le hb h.size) (fun e => hn (e ▸ hg)) (fun e => hn ⟨by omega, by omega⟩)).trans (h.block b hb hn)⟩
end Go.Proofs.Ytgpbmmhfhjobkaa
