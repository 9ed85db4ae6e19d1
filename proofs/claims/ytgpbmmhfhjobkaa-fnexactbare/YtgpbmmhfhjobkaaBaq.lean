import Derived.Test.YtgpbmmhfhjobkaaBap
namespace Go.Proofs.Ytgpbmmhfhjobkaa
open Go.ChangeShapes Go.WideShapes Go.ChangeAt Go.RowKit
set_option linter.unusedVariables false
/-- a form without its places -/
def bar (f : Gv) : Gv := ⟨⟨f.a.k, 0, 0, 0, f.a.o, f.a.m, f.a.x⟩, f.p, f.A, f.q, f.K⟩
theorem smr_bar (F : Nat → Gv) (n : Nat) : smr (fun i => bar (F i)) n = smr F n := by
  induction n with
  | zero => rfl
  | succ n ih => show smr (fun i => bar (F i)) n + (F n).p + (F n).q = smr F n + (F n).p + (F n).q; rw [ih]
/-- the cells of a form -/
def c9 (x : Fv × Value × Value) : List Value := [.int .i64 x.1.k, .int .i64 x.1.f, .int .i64 x.1.t, .int .i64 x.1.l, .int .i64 x.1.o, .int .i64 x.1.m, .string x.1.x, x.2.1, x.2.2]
theorem c9_get (L : List (Fv × Value × Value)) (j c : Nat) (x : Fv × Value × Value) (h : L[j]? = some x) (hc : c < 9) : (L.flatMap c9)[j * 9 + c]? = (c9 x)[c]? := by
  induction L generalizing j with
  | nil => simp at h
  | cons y L ih =>
    have hl : (c9 y).length = 9 := rfl
    rw [List.flatMap_cons]
    cases j with
    | zero =>
      simp at h
      subst h
      rw [List.getElem?_append_left (by rw [hl]; omega)]
      congr 1
      omega
    | succ j =>
      simp at h
      rw [List.getElem?_append_right (by rw [hl]; omega), hl, ← ih j h]
      congr 1
      omega
/-- forms told one behind the other, with rows of their own -/
structure Acc (B : Nat) (v : Value) (F : Nat → Gv) (i : Nat) (L : List (Fv × Value × Value)) (t : Nat → Nat) (W : World) : Prop where
  row : W.ownsRow B 38 9 v i (L.flatMap c9)
  len : L.length = i
  frm : ∀ j, j < i → ∃ vn vk gn gk, L[j]? = some ((F j).a, vn, vk) ∧ OwnR W vn gn (F j).p (fun j' => .string ((F j).A j')) ∧ OwnR W vk gk (F j).q (fun j' => .int .i64 ((F j).K j')) ∧
    (0 < (F j).p → t j ≤ gn ∧ gn < t (j + 1) ∧ v.ownBlock ≠ some gn) ∧ (0 < (F j).q → t j ≤ gk ∧ gk < t (j + 1) ∧ v.ownBlock ≠ some gk) ∧ (0 < (F j).p → 0 < (F j).q → gn ≠ gk)
  up : ∀ a b, a ≤ b → b ≤ i → t a ≤ t b
  b0 : B ≤ t 0
  bi : t i ≤ W.heap.size
theorem Acc.nil (B : Nat) (F : Nat → Gv) (W : World) (h : B ≤ W.heap.size) : Acc B (.slice none 0 0) F 0 [] (fun _ => B) W :=
  ⟨World.ownsRow_nil _ _ _ _, rfl, fun j hj => by omega, fun _ _ _ _ => Nat.le_refl _, Nat.le_refl _, h⟩
theorem Acc.keep {B : Nat} {v : Value} {F : Nat → Gv} {i : Nat} {L : List (Fv × Value × Value)} {t : Nat → Nat} {W W' : World} (h : Acc B v F i L t W) (hs : W.heap.size ≤ W'.heap.size) (hb : ∀ b, B ≤ b → b < W.heap.size → W'.heap[b]? = W.heap[b]?) : Acc B v F i L t W' := by
  have hbi := h.bi
  have hb0 := h.b0
  refine ⟨rowBlk h.row (fun g e => hb g (h.row.lt g e).1 (h.row.lt g e).2), h.len, fun j hj => ?_, h.up, h.b0, by omega⟩
  obtain ⟨vn, vk, gn, gk, h1, o1, o2, b1, b2, b3⟩ := h.frm j hj
  have u0 := h.up 0 j (by omega) (by omega)
  exact ⟨vn, vk, gn, gk, h1, o1.block (fun hp => hb gn (by have := b1 hp; omega) (lt_of_cell (o1.cell 0 hp))), o2.block (fun hp => hb gk (by have := b2 hp; omega) (lt_of_cell (o2.cell 0 hp))), b1, b2, b3⟩
theorem Acc.below {B : Nat} {v : Value} {F : Nat → Gv} {i : Nat} {L : List (Fv × Value × Value)} {t : Nat → Nat} {W W' : World} (h : Acc B v F i L t W) (hb : Below W.heap.size W W') : Acc B v F i L t W' :=
  h.keep hb.size (fun b _ h2 => hb.block b h2)
theorem Acc.add {B : Nat} {v : Value} {F : Nat → Gv} {i : Nat} {L : List (Fv × Value × Value)} {t : Nat → Nat} {W w6 w2 : World} (h : Acc B v F i L t W) (hb : Below W.heap.size W w6) {vn vk : Value} {gn gk : Nat}
    (o1 : OwnR w6 vn gn (F i).p (fun j => .string ((F i).A j))) (o2 : OwnR w6 vk gk (F i).q (fun j => .int .i64 ((F i).K j))) (h1 : 0 < (F i).p → W.heap.size ≤ gn ∧ gn < w6.heap.size) (h2 : 0 < (F i).q → W.heap.size ≤ gk ∧ gk < w6.heap.size) (h3 : 0 < (F i).p → 0 < (F i).q → gn ≠ gk)
    {o : Obj} {g cap : Nat} (ho : w2.ownsRow B 38 9 (.slice (some ⟨g, 0, none⟩) (i + 1) cap) (i + 1) (L.flatMap c9 ++ c9 ((F i).a, vn, vk))) (hg : (w6.alloc o).grownBy w2 v.ownBlock) (hat : v.ownBlock = some g ∨ g = w6.heap.size + 1) :
    Acc B (.slice (some ⟨g, 0, none⟩) (i + 1) cap) F (i + 1) (L ++ [((F i).a, vn, vk)]) (fun j => if j ≤ i then t j else w6.heap.size) w2 := by
  have h6 := h.below hb
  have hgs := hg.size
  have hbi := h.bi
  have hws := hb.size
  have hbl : ∀ b, b < w6.heap.size → v.ownBlock ≠ some b → w2.heap[b]? = w6.heap[b]? := fun b h1 h2 => (hg.block b (by simp; omega) (fun e => h2 e.symm)).trans (Below.heap_alloc _ _ _ h1)
  have hvb : ∀ b, v.ownBlock = some b → b < W.heap.size := fun b e => (h.row.lt b e).2
  have hgne : ∀ b, b < w6.heap.size → v.ownBlock ≠ some b → (Value.slice (some ⟨g, 0, none⟩) (i + 1) cap).ownBlock ≠ some b := by
    intro b hb1 hb2 e
    have e' : g = b := by simpa [Value.ownBlock] using e
    rcases hat with r | r
    · exact hb2 (e' ▸ r)
    · omega
  refine ⟨by rw [List.flatMap_append]; simpa using ho, by rw [List.length_append, h.len]; rfl, ?_, ?_, ?_, ?_⟩
  · intro j hj
    by_cases e : j = i
    · subst e
      have hn1 : 0 < (F j).p → v.ownBlock ≠ some gn := fun hp e => by have := hvb gn e; have := h1 hp; omega
      have hn2 : 0 < (F j).q → v.ownBlock ≠ some gk := fun hp e => by have := hvb gk e; have := h2 hp; omega
      rw [if_pos (Nat.le_refl _), if_neg (by omega)]
      refine ⟨vn, vk, gn, gk, by rw [List.getElem?_append_right (by rw [h.len]; exact Nat.le_refl _), h.len, Nat.sub_self]; rfl, o1.block (fun hp => hbl gn (h1 hp).2 (hn1 hp)), o2.block (fun hp => hbl gk (h2 hp).2 (hn2 hp)), fun hp => ⟨by have := h1 hp; omega, (h1 hp).2, hgne gn (h1 hp).2 (hn1 hp)⟩, fun hp => ⟨by have := h2 hp; omega, (h2 hp).2, hgne gk (h2 hp).2 (hn2 hp)⟩, h3⟩
    · rw [if_pos (by omega), if_pos (by omega)]
      obtain ⟨vn', vk', gn', gk', q1, q2, q3, q4, q5, q6⟩ := h6.frm j (by omega)
      have u1 := h.up (j + 1) i (by omega) (by omega)
      refine ⟨vn', vk', gn', gk', by rw [List.getElem?_append_left (by rw [h.len]; omega)]; exact q1, q2.block (fun hp => hbl gn' (by have := q4 hp; omega) (q4 hp).2.2), q3.block (fun hp => hbl gk' (by have := q5 hp; omega) (q5 hp).2.2), fun hp => ⟨(q4 hp).1, (q4 hp).2.1, hgne gn' (by have := q4 hp; omega) (q4 hp).2.2⟩, fun hp => ⟨(q5 hp).1, (q5 hp).2.1, hgne gk' (by have := q5 hp; omega) (q5 hp).2.2⟩, q6⟩
  · intro a b hab hbi2
    show (if a ≤ i then t a else w6.heap.size) ≤ (if b ≤ i then t b else w6.heap.size)
    by_cases e : b ≤ i
    · rw [if_pos e, if_pos (by omega)]; exact h.up a b hab e
    · rw [if_neg e]
      by_cases e2 : a ≤ i
      · rw [if_pos e2]; have := h.up a i e2 (Nat.le_refl _); omega
      · rw [if_neg e2]; exact Nat.le_refl _
  · show B ≤ (if 0 ≤ i then t 0 else w6.heap.size)
    rw [if_pos (Nat.zero_le _)]; exact h.b0
  · show (if i + 1 ≤ i then t (i + 1) else w6.heap.size) ≤ _
    rw [if_neg (by omega)]
    simp at hgs
    omega
theorem Acc.own {B : Nat} {v : Value} {F : Nat → Gv} {n : Nat} {L : List (Fv × Value × Value)} {t : Nat → Nat} {W : World} (h : Acc B v F n L t W) {lo hi : Nat} (h1 : lo ≤ B) (h2 : W.heap.size ≤ hi) : ∃ g, OwnF W v g n F t lo hi := by
  have hbi := h.bi
  have hb0 := h.b0
  rcases h.row.2 with ⟨rfl, rfl⟩ | ⟨g, cap, cur, rfl, hb, hg, hn, _, _, ht⟩
  · exact ⟨0, ⟨⟨none, 0, rfl, fun f => by omega⟩, fun i hi => by omega, fun f => by omega, h.up, fun f => by omega, by omega, by omega⟩⟩
  · have hgl : g < W.heap.size := (Array.getElem?_eq_some_iff.1 hg).1
    refine ⟨g, ⟨⟨_, cap, rfl, fun _ => ⟨rfl, hn⟩⟩, fun i hi => ?_, fun _ j => by simp [World.frozen?, hg], h.up, fun _ => ⟨by omega, by omega⟩, by omega, by omega⟩⟩
    obtain ⟨vn, vk, gn, gk, q1, q2, q3, q4, q5, q6⟩ := h.frm i hi
    refine ⟨vn, vk, gn, gk, ?_, q2, q3, fun hp => ⟨(q4 hp).1, (q4 hp).2.1, fun e => (q4 hp).2.2 (by rw [e]; rfl)⟩, fun hp => ⟨(q5 hp).1, (q5 hp).2.1, fun e => (q5 hp).2.2 (by rw [e]; rfl)⟩, q6⟩
    have e : ∀ c, c < 9 → W.cell? ⟨g, i * 9 + c, none⟩ = (c9 ((F i).a, vn, vk))[c]? := by
      intro c hc
      rw [← c9_get L i c _ q1 hc, ← ht, List.getElem?_take, if_pos (by omega)]
      simp [World.cell?, hg]
    exact ⟨e 0 (by omega), e 1 (by omega), e 2 (by omega), e 3 (by omega), e 4 (by omega), e 5 (by omega), e 6 (by omega), e 7 (by omega), e 8 (by omega)⟩
/-- between two rounds of the making of a bare sheet -/
structure Bv (w : World) (vo : Value) (F : Nat → Gv) (i : Nat) (W : World) : Prop where
  bel : Below w.heap.size w W
  size : w.heap.size + 3 ≤ W.heap.size
  res : W.heap[w.heap.size + 1]? = some (.cells #[.slice none 0 0] 28 (0, 0))
  out : W.heap[w.heap.size + 2]? = some (.cells #[vo] 28 (0, 0))
  acc : ∃ L t, Acc (w.heap.size + 3) vo F i L t W
end Go.Proofs.Ytgpbmmhfhjobkaa
