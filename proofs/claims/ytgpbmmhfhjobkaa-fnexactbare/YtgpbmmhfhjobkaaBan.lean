import Derived.Test.YtgpbmmhfhjobkaaBam
namespace Go.Proofs.Ytgpbmmhfhjobkaa
open Go.ChangeShapes Go.WideShapes Go.ChangeAt Go.RowKit
set_option linter.unusedVariables false
/-- a form of nothing -/
def fv0 : Fv := ⟨0, 0, 0, 0, 0, 0, ⟨#[]⟩⟩
def z9 : Value := .agg #[.int .i64 0, .int .i64 0, .int .i64 0, .int .i64 0, .int .i64 0, .int .i64 0, .string ⟨#[]⟩, .slice none 0 0, .slice none 0 0]
theorem z9c : z9.cells = #[.int .i64 0, .int .i64 0, .int .i64 0, .int .i64 0, .int .i64 0, .int .i64 0, .string ⟨#[]⟩, .slice none 0 0, .slice none 0 0] := by rfl
theorem made9 (w : World) (e n : Nat) (j c : Nat) (hj : j < n) (hc : c < 9) : (w.alloc (.cells (madeCells z9.cells (n * 9)) e)).cell? ⟨w.heap.size, j * 9 + c, none⟩ = z9.cells[c]? := by
  have hs : z9.cells.size = 9 := by rw [z9c]; rfl
  have hb : j * 9 + c < n * 9 := by omega
  have hg : (madeCells z9.cells (n * 9))[j * 9 + c]? = z9.cells[c]? := by
    have hm : (j * 9 + c) % 9 = c := by omega
    simp [madeCells, hs, hb, hm]
    rw [getElem?_pos z9.cells c (by omega), getElem!_pos z9.cells c (by omega)]
  rw [World.cell?_alloc_at _ _ _ _ rfl]
  exact hg
/-- a form laid down in its nine cells -/
def s9 (W : World) (g o : Nat) (a : Fv) (vn vk : Value) : World :=
  ((((((((W.setCell ⟨g, o, none⟩ (.int .i64 a.k)).setCell ⟨g, o + 1, none⟩ (.int .i64 a.f)).setCell ⟨g, o + 2, none⟩ (.int .i64 a.t)).setCell ⟨g, o + 3, none⟩ (.int .i64 a.l)).setCell ⟨g, o + 4, none⟩ (.int .i64 a.o)).setCell ⟨g, o + 5, none⟩ (.int .i64 a.m)).setCell ⟨g, o + 6, none⟩ (.string a.x)).setCell ⟨g, o + 7, none⟩ vn).setCell ⟨g, o + 8, none⟩ vk
theorem s9_kc (W : World) (g i : Nat) (a : Fv) (vn vk : Value) (S : Nat → Prop) : Kc g (i * 9) (i * 9 + 9) S W (s9 W g (i * 9) a vn vk) :=
  (((((((((Kc.refl g (i * 9) (i * 9 + 9) S W).set (i * 9) (by omega) (by omega) _).set (i * 9 + 1) (by omega) (by omega) _).set (i * 9 + 2) (by omega) (by omega) _).set (i * 9 + 3) (by omega) (by omega) _).set (i * 9 + 4) (by omega) (by omega) _).set (i * 9 + 5) (by omega) (by omega) _).set (i * 9 + 6) (by omega) (by omega) _).set (i * 9 + 7) (by omega) (by omega) _).set (i * 9 + 8) (by omega) (by omega) _
theorem s9_size (W : World) (g o : Nat) (a : Fv) (vn vk : Value) : (s9 W g o a vn vk).heap.size = W.heap.size := by
  unfold s9
  simp
theorem s9_cel {W : World} {g o : Nat} {b : Fv} {un uk : Value} (h : Cel9 W ⟨g, o, none⟩ b un uk) (a : Fv) (vn vk : Value) : Cel9 (s9 W g o a vn vk) ⟨g, o, none⟩ a vn vk := by
  obtain ⟨h0, h1, h2, h3, h4, h5, h6, h7, h8⟩ := h
  dsimp only at h1 h2 h3 h4 h5 h6 h7 h8
  unfold s9
  refine ⟨?_, ?_, ?_, ?_, ?_, ?_, ?_, ?_, ?_⟩ <;> try dsimp only
  · rw [set_ne _ _ _ _ _ (by omega), set_ne _ _ _ _ _ (by omega), set_ne _ _ _ _ _ (by omega), set_ne _ _ _ _ _ (by omega), set_ne _ _ _ _ _ (by omega), set_ne _ _ _ _ _ (by omega), set_ne _ _ _ _ _ (by omega), set_ne _ _ _ _ _ (by omega)]
    exact set_eq _ _ _ _ _ h0
  · rw [set_ne _ _ _ _ _ (by omega), set_ne _ _ _ _ _ (by omega), set_ne _ _ _ _ _ (by omega), set_ne _ _ _ _ _ (by omega), set_ne _ _ _ _ _ (by omega), set_ne _ _ _ _ _ (by omega), set_ne _ _ _ _ _ (by omega)]
    exact set_eq _ _ _ _ _ (by rw [set_ne _ _ _ _ _ (by omega)]; exact h1)
  · rw [set_ne _ _ _ _ _ (by omega), set_ne _ _ _ _ _ (by omega), set_ne _ _ _ _ _ (by omega), set_ne _ _ _ _ _ (by omega), set_ne _ _ _ _ _ (by omega), set_ne _ _ _ _ _ (by omega)]
    exact set_eq _ _ _ _ _ (by rw [set_ne _ _ _ _ _ (by omega), set_ne _ _ _ _ _ (by omega)]; exact h2)
  · rw [set_ne _ _ _ _ _ (by omega), set_ne _ _ _ _ _ (by omega), set_ne _ _ _ _ _ (by omega), set_ne _ _ _ _ _ (by omega), set_ne _ _ _ _ _ (by omega)]
    exact set_eq _ _ _ _ _ (by rw [set_ne _ _ _ _ _ (by omega), set_ne _ _ _ _ _ (by omega), set_ne _ _ _ _ _ (by omega)]; exact h3)
  · rw [set_ne _ _ _ _ _ (by omega), set_ne _ _ _ _ _ (by omega), set_ne _ _ _ _ _ (by omega), set_ne _ _ _ _ _ (by omega)]
    exact set_eq _ _ _ _ _ (by rw [set_ne _ _ _ _ _ (by omega), set_ne _ _ _ _ _ (by omega), set_ne _ _ _ _ _ (by omega), set_ne _ _ _ _ _ (by omega)]; exact h4)
  · rw [set_ne _ _ _ _ _ (by omega), set_ne _ _ _ _ _ (by omega), set_ne _ _ _ _ _ (by omega)]
    exact set_eq _ _ _ _ _ (by rw [set_ne _ _ _ _ _ (by omega), set_ne _ _ _ _ _ (by omega), set_ne _ _ _ _ _ (by omega), set_ne _ _ _ _ _ (by omega), set_ne _ _ _ _ _ (by omega)]; exact h5)
  · rw [set_ne _ _ _ _ _ (by omega), set_ne _ _ _ _ _ (by omega)]
    exact set_eq _ _ _ _ _ (by rw [set_ne _ _ _ _ _ (by omega), set_ne _ _ _ _ _ (by omega), set_ne _ _ _ _ _ (by omega), set_ne _ _ _ _ _ (by omega), set_ne _ _ _ _ _ (by omega), set_ne _ _ _ _ _ (by omega)]; exact h6)
  · rw [set_ne _ _ _ _ _ (by omega)]
    exact set_eq _ _ _ _ _ (by rw [set_ne _ _ _ _ _ (by omega), set_ne _ _ _ _ _ (by omega), set_ne _ _ _ _ _ (by omega), set_ne _ _ _ _ _ (by omega), set_ne _ _ _ _ _ (by omega), set_ne _ _ _ _ _ (by omega), set_ne _ _ _ _ _ (by omega)]; exact h7)
  · exact set_eq _ _ _ _ _ (by rw [set_ne _ _ _ _ _ (by omega), set_ne _ _ _ _ _ (by omega), set_ne _ _ _ _ _ (by omega), set_ne _ _ _ _ _ (by omega), set_ne _ _ _ _ _ (by omega), set_ne _ _ _ _ _ (by omega), set_ne _ _ _ _ _ (by omega), set_ne _ _ _ _ _ (by omega)]; exact h8)
/-- between two rounds of the copying: the first i forms stand in block g -/
structure ToR (w1 : World) (g n : Nat) (F : Nat → Gv) (i : Nat) (W : World) (t : Nat → Nat) : Prop where
  kq : Kq (fun k => k = g) w1 W
  frm : ∀ j, j < i → FormO W g j (F j) (t j) (t (j + 1))
  rest : ∀ j, i ≤ j → j < n → Cel9 W ⟨g, j * 9, none⟩ fv0 (.slice none 0 0) (.slice none 0 0)
  fz : ∀ j, W.frozen? ⟨g, j, none⟩ = false
  up : ∀ a b, a ≤ b → b ≤ i → t a ≤ t b
  b0 : g < t 0
  bi : t i ≤ W.heap.size
  gl : g < w1.heap.size
theorem FormO.mono {W : World} {g i : Nat} {f : Gv} {lo hi lo' hi' : Nat} (h : FormO W g i f lo hi) (h1 : lo' ≤ lo) (h2 : hi ≤ hi') : FormO W g i f lo' hi' := by
  obtain ⟨vn, vk, gn, gk, hc, o1, o2, b1, b2, b3⟩ := h
  exact ⟨vn, vk, gn, gk, hc, o1, o2, fun hp => by have := b1 hp; omega, fun hp => by have := b2 hp; omega, b3⟩
theorem ToR.below {w1 W W' : World} {g n i : Nat} {F : Nat → Gv} {t : Nat → Nat} (h : ToR w1 g n F i W t) (hb : Below W.heap.size W W') : ToR w1 g n F i W' t := by
  have hgl : g < W.heap.size := Nat.lt_of_lt_of_le h.gl h.kq.size
  have hk : Kc g (i * 9) (i * 9 + 9) (fun _ => False) W W' := (Kc.refl _ _ _ _ W).below hb hgl
  have hgb := hb.block g hgl
  refine ⟨h.kq.trans (Kq.of_below hb (Nat.le_refl _)), fun j hj => (h.frm j hj).kc hk (by omega) (fun _ _ _ f => f), fun j h1 h2 => (h.rest j h1 h2).below hb, fun j => by rw [World.frozen?_of_block hgb]; exact h.fz j, h.up, h.b0, Nat.le_trans h.bi hb.size, h.gl⟩
theorem ToR.step {w1 W w6 : World} {g n i : Nat} {F : Nat → Gv} {t : Nat → Nat} (h : ToR w1 g n F i W t) (hi : i < n) (hb : Below W.heap.size W w6) {vn vk : Value} {gn gk : Nat}
    (o1 : OwnR w6 vn gn (F i).p (fun j => .string ((F i).A j))) (o2 : OwnR w6 vk gk (F i).q (fun j => .int .i64 ((F i).K j))) (h1 : W.heap.size ≤ gn) (h2 : gn < gk) (h3 : gk < w6.heap.size) :
    Cel9 w6 ⟨g, i * 9, none⟩ fv0 (.slice none 0 0) (.slice none 0 0) ∧ (∀ j, w6.frozen? ⟨g, j, none⟩ = false) ∧ ToR w1 g n F (i + 1) (s9 w6 g (i * 9) (F i).a vn vk) (fun j => if j ≤ i then t j else w6.heap.size) := by
  have h6 := h.below hb
  have hc := h6.rest i (Nat.le_refl _) hi
  have hgl : g < W.heap.size := Nat.lt_of_lt_of_le h.gl h.kq.size
  have hg6 : g < w6.heap.size := Nat.lt_of_lt_of_le hgl hb.size
  have hk := s9_kc w6 g i (F i).a vn vk (fun _ => False)
  have hb6 := h6.bi
  have hbi := h.bi
  have hws := hb.size
  have blk : ∀ b, b < w6.heap.size → b ≠ g → (s9 w6 g (i * 9) (F i).a vn vk).heap[b]? = w6.heap[b]? := fun b h1 h2 => hk.block b h1 h2 (fun f => f)
  refine ⟨hc, h6.fz, ⟨⟨hk.os.trans h6.kq.os, hk.tape.trans h6.kq.tape, hk.output.trans h6.kq.output, Nat.le_trans h6.kq.size hk.size, fun b hb1 hb2 => (blk b (Nat.lt_of_lt_of_le hb1 h6.kq.size) hb2).trans (h6.kq.block b hb1 hb2)⟩, ?_, ?_, fun j => (hk.fz j).trans (h6.fz j), ?_, ?_, ?_, h.gl⟩⟩
  · intro j hj
    by_cases e : j = i
    · subst e
      rw [if_pos (Nat.le_refl _), if_neg (by omega)]
      refine ⟨vn, vk, gn, gk, s9_cel hc _ _ _, o1.block (fun hp => blk gn (by omega) (by omega)), o2.block (fun hp => blk gk (by omega) (by omega)), fun hp => ⟨by omega, by omega, by omega⟩, fun hp => ⟨by omega, by omega, by omega⟩, fun _ _ => by omega⟩
    · rw [if_pos (by omega), if_pos (by omega)]
      exact (h6.frm j (by omega)).kc hk (by omega) (fun _ _ _ f => f)
  · intro j h1 h2
    obtain ⟨c0, c1, c2, c3, c4, c5, c6, c7, c8⟩ := h6.rest j (by omega) h2
    have e : ∀ c, c < 9 → (s9 w6 g (i * 9) (F i).a vn vk).cell? ⟨g, j * 9 + c, none⟩ = w6.cell? ⟨g, j * 9 + c, none⟩ := fun c hc => hk.cell _ (by omega)
    exact ⟨(e 0 (by omega)).trans c0, (e 1 (by omega)).trans c1, (e 2 (by omega)).trans c2, (e 3 (by omega)).trans c3, (e 4 (by omega)).trans c4, (e 5 (by omega)).trans c5, (e 6 (by omega)).trans c6, (e 7 (by omega)).trans c7, (e 8 (by omega)).trans c8⟩
  · intro a b hab hbi2
    show (if a ≤ i then t a else w6.heap.size) ≤ (if b ≤ i then t b else w6.heap.size)
    by_cases e : b ≤ i
    · rw [if_pos e, if_pos (by omega)]; exact h.up a b hab e
    · rw [if_neg e]
      by_cases e2 : a ≤ i
      · rw [if_pos e2]; have := h.up a i e2 (Nat.le_refl _); omega
      · rw [if_neg e2]; exact Nat.le_refl _
  · show g < (if 0 ≤ i then t 0 else w6.heap.size)
    rw [if_pos (Nat.zero_le _)]; exact h.b0
  · show (if i + 1 ≤ i then t (i + 1) else w6.heap.size) ≤ _
    rw [if_neg (by omega), s9_size]; exact Nat.le_refl _
set_option maxRecDepth 100000 in
set_option maxHeartbeats 4000000 in
theorem to_forms {va : Value} {n : Nat} {F : Nat → Gv} (w : World) (ha : RowF w va n F) (hn : n + smr F n ≤ 1048576) :
    Calls Try.prog 13 #[va] w fun e w' => ∃ v g t, e = .returned v ∧ OwnF w' v g n F t w.heap.size w'.heap.size ∧ Below w.heap.size w w' := by
  obtain ⟨pa, ca, rfl, ha2⟩ := ha
  have hnI : (n : Int) ≤ 1048576 := by omega
  have hmk := run_make (P := Try.prog) w 26 38 Try.t38 z9 Try.underlying26 (by kernel_rfl) (by kernel_rfl) .i64 .i64 (n : Int) (n : Int) (by omega) (Int.le_refl _) (by show (112 : Int) * (n : Int) ≤ _; omega) (by omega)
  rw [Int.toNat_natCast] at hmk
  obtain ⟨w1, hw1⟩ : ∃ w1, w1 = w.alloc (.cells (madeCells z9.cells (n * Try.t38.size)) 38) := ⟨_, rfl⟩
  rw [← hw1] at hmk
  have c1 : ∀ j c, j < n → c < 9 → w1.cell? ⟨w.heap.size, j * 9 + c, none⟩ = z9.cells[c]? := by intro j c hj hc; rw [hw1]; exact made9 w 38 n j c hj hc
  have f1 : ∀ j, w1.frozen? ⟨w.heap.size, j, none⟩ = false := by intro j; rw [hw1]; exact made_fz _ _ _ _
  have b1 : Below w.heap.size w w1 := by rw [hw1]; exact (Below.refl _ w).alloc (Nat.le_refl _) _
  have l1 : w.heap.size < w1.heap.size := by rw [hw1]; simp
  have HI0 : Hid (ToR w1 w.heap.size n F 0 w1 (fun _ => w1.heap.size)) := (⟨Kq.refl _ _, fun i hi => by omega, fun j _ hj => ⟨c1 j 0 hj (by omega), c1 j 1 hj (by omega), c1 j 2 hj (by omega), c1 j 3 hj (by omega), c1 j 4 hj (by omega), c1 j 5 hj (by omega), c1 j 6 hj (by omega), c1 j 7 hj (by omega), c1 j 8 hj (by omega)⟩, f1, fun _ _ _ _ => Nat.le_refl _, l1, Nat.le_refl _, l1⟩ : ToR w1 w.heap.size n F 0 w1 (fun _ => w1.heap.size))
  have HA : Hid ((0 < n → ∃ a : Addr, pa = some a ∧ n ≤ ca ∧ ∀ i, i < n → FormC w (a.add (i * 9)) (F i)) ∧ Below w.heap.size w w1 ∧ n + smr F n ≤ 1048576) := (⟨ha2, b1, hn⟩ : _ ∧ _ ∧ _)
  clear ha2 b1 c1 f1 hw1 hn l1
  obtain ⟨G, hG⟩ : ∃ G, G = w.heap.size := ⟨_, rfl⟩
  rw [← hG] at hmk HI0 ⊢
  have HG : Hid (G = w.heap.size) := hG
  clear hG
  go_enter Try.func13, Try.ntmps13
  go_wp2_with fail
  go_loopw [4] (fun s4 wr => ∃ i : Nat, s4 = .int .i64 (i : Int) ∧ i ≤ n ∧ Hid (∃ t, ToR w1 G n F i wr t)) (fun s4 _ => n - (intOf s4).toNat)
  case atStart => exact ⟨0, rfl, Nat.zero_le _, (⟨_, HI0⟩ : ∃ t, ToR w1 G n F 0 w1 t)⟩
  case round =>
    clear HI0 hmk
    obtain ⟨i, rfl, hin, HI⟩ := hrel
    obtain ⟨t, hI⟩ := (show ∃ t, ToR w1 G n F i wr t from HI)
    have hA := (show (0 < n → ∃ a : Addr, pa = some a ∧ n ≤ ca ∧ ∀ i, i < n → FormC w (a.add (i * 9)) (F i)) ∧ Below w.heap.size w w1 ∧ n + smr F n ≤ 1048576 from HA)
    have hBW : Below w.heap.size w wr := by
      have hG := (show G = w.heap.size from HG)
      exact ⟨hI.kq.os.trans hA.2.1.os, hI.kq.tape.trans hA.2.1.tape, hI.kq.output.trans hA.2.1.output, Nat.le_trans hA.2.1.size hI.kq.size, fun b hb => (hI.kq.block b (Nat.lt_of_lt_of_le hb hA.2.1.size) (by omega)).trans (hA.2.1.block b hb)⟩
    rcases Nat.lt_or_ge i n with hi | hi
    · have hiI : (i : Int) < (n : Int) := by omega
      obtain ⟨a, rfl, hca, hra⟩ := hA.1 (by omega)
      obtain ⟨un, uk, hc, hrn, hrk⟩ := (hra i hi).below hBW
      have hsu := smr_mono F (show i + 1 ≤ n from hi)
      have hss : smr F (i + 1) = smr F i + (F i).p + (F i).q := rfl
      have HT : Hid (Calls Try.prog 21 #[fmv (F i).a un uk] wr fun e w' => ∃ vn vk gn gk, e = .returned (fmv (F i).a vn vk) ∧ OwnR w' vn gn (F i).p (fun j => .string ((F i).A j)) ∧ OwnR w' vk gk (F i).q (fun j => .int .i64 ((F i).K j)) ∧ wr.heap.size ≤ gn ∧ gn < gk ∧ gk < w'.heap.size ∧ Below wr.heap.size wr w') := to_form wr hrn hrk (by omega) (by omega)
      have HS : Hid (∀ w6 vn vk gn gk, Below wr.heap.size wr w6 → OwnR w6 vn gn (F i).p (fun j => .string ((F i).A j)) → OwnR w6 vk gk (F i).q (fun j => .int .i64 ((F i).K j)) → wr.heap.size ≤ gn → gn < gk → gk < w6.heap.size → Cel9 w6 ⟨G, i * 9, none⟩ fv0 (.slice none 0 0) (.slice none 0 0) ∧ (∀ j, w6.frozen? ⟨G, j, none⟩ = false) ∧ ∃ t, ToR w1 G n F (i + 1) (s9 w6 G (i * 9) (F i).a vn vk) t) := (fun w6 vn vk gn gk hb o1 o2 l1 l2 l3 => by
        obtain ⟨q1, q2, q3⟩ := hI.step hi hb o1 o2 l1 l2 l3
        exact ⟨q1, q2, _, q3⟩ : ∀ w6 vn vk gn gk, _)
      obtain ⟨d0, d1, d2, d3, d4, d5, d6, d7, d8⟩ := hc
      clear hA HA hI HI hra hrn hrk hsu hss hin HG hBW
      go_wp2_with fail
      refine (show Calls Try.prog 21 #[fmv (F i).a un uk] wr fun e w' => ∃ vn vk gn gk, _ from HT).mono ?_
      rintro e w6 ⟨vn, vk, gn, gk, rfl, o1, o2, l1, l2, l3, hb6⟩
      obtain ⟨hc, hf, hT⟩ := (show ∀ w6 vn vk gn gk, _ from HS) w6 vn vk gn gk hb6 o1 o2 l1 l2 l3
      obtain ⟨pn, cn, rfl, _⟩ := o1.sl
      obtain ⟨pk, ck, rfl, _⟩ := o2.sl
      have HTT : Hid (∃ t, ToR w1 G n F (i + 1) (s9 w6 G (i * 9) (F i).a (.slice pn (F i).p cn) (.slice pk (F i).q ck)) t) := hT
      obtain ⟨h0, h1, h2, h3, h4, h5, h6, h7, h8⟩ := hc
      dsimp only [fv0] at h0 h1 h2 h3 h4 h5 h6 h7 h8
      have e0 := hf (i * 9)
      have e1 := hf (i * 9 + 1)
      have e2 := hf (i * 9 + 2)
      have e3 := hf (i * 9 + 3)
      have e4 := hf (i * 9 + 4)
      have e5 := hf (i * 9 + 5)
      have e6 := hf (i * 9 + 6)
      have e7 := hf (i * 9 + 7)
      have e8 := hf (i * 9 + 8)
      clear hf hT HS HT o1 o2 l1 l2 l3 hb6 d0 d1 d2 d3 d4 d5 d6 d7 d8
      unfold fmv
      go_wp2_with fail
      go_roundw
      case rel => exact ⟨i + 1, by go_num, by omega, HTT⟩
      case measure => simp [intOf]; omega
    · obtain rfl : i = n := by omega
      have HE : Hid ((∃ t, ToR w1 G i F i wr t) ∧ Below w.heap.size w wr ∧ G = w.heap.size) := (⟨⟨_, hI⟩, hBW, HG⟩ : _ ∧ _ ∧ _)
      clear HI hI hA HA HG hBW
      go_wp2_with fail
      go_ret
      obtain ⟨⟨t', hE⟩, hB, hG⟩ := (show (∃ t, ToR w1 G i F i wr t) ∧ Below w.heap.size w wr ∧ G = w.heap.size from HE)
      have hgl := Nat.lt_of_lt_of_le hE.gl hE.kq.size
      have hb0 := hE.b0
      exact ⟨_, G, t', rfl, ⟨⟨_, _, rfl, fun _ => ⟨rfl, Nat.le_refl _⟩⟩, hE.frm, fun _ => hE.fz, hE.up, fun _ => ⟨by omega, hgl⟩, by omega, hE.bi⟩, hG ▸ hB⟩
end Go.Proofs.Ytgpbmmhfhjobkaa
