import Derived.Test.YtaoagjajjeddcaaSlg
namespace Go.Proofs.Ytaoagjajjeddcaa.Fo
open Go.ChangeShapes Go.WideShapes Go.ChangeAt Go.RowKit
set_option linter.unusedVariables false
set_option maxRecDepth 100000

def evb (e : Ev) : Nat → Value := fun j => .bool (e.A j)
/-- the ten cells of an event -/
def evl (e : Ev) (v : Value) : List Value := [.int .i64 e.op, .int .i64 e.n, .int .i64 e.m, .string e.x, .string e.y, .int .i64 e.k, .int .i64 e.f, .int .i64 e.l, .string e.z, v]
/-- events being copied: i of them are made -/
def TsX (w1 : World) (g n : Nat) (F : Nat → Ev) (i : Nat) (wr : World) : Prop := ∃ (V : Nat → Value) (G : Nat → Nat), Mk 10 w1 g n (fun j => evl (F j) (V j)) i wr ∧ (∀ j, j < i → OwnR wr (V j) (G j) (F j).q (evb (F j)) ∧ w1.heap.size ≤ G j ∧ G j < wr.heap.size) ∧ (∀ j j', j < i → j' < i → j ≠ j' → G j ≠ G j')
theorem TsX.step {w1 : World} {g n : Nat} {F : Nat → Ev} {i : Nat} {wr w6 : World} {v0 : Value} {b0 : Nat} (h : TsX w1 g n F i wr) (hi : i < n) (k6 : Kb 0 wr w6) (o : OwnR w6 v0 b0 (F i).q (evb (F i))) (hb : wr.heap.size ≤ b0 ∧ b0 < w6.heap.size) :
    (∀ t, t < 10 → ∃ u, w6.cell? ⟨g, i * 10 + t, none⟩ = some u) ∧ (∀ j, w6.frozen? ⟨g, j, none⟩ = false) ∧ TsX w1 g n F (i + 1) (setL w6 g (i * 10) (evl (F i) v0)) := by
  obtain ⟨V, G, hM, hR, hD⟩ := h
  have h6 := hM.kb k6
  refine ⟨h6.rest i (Nat.le_refl _) hi, h6.fz, fun j => if j = i then v0 else V j, fun j => if j = i then b0 else G j, ?_, fun j hj => ?_, fun j j' hj hj' hne => ?_⟩
  · have hs := h6.step hi (show (evl (F i) v0).length = 10 from rfl)
    have e : (fun j => if j = i then evl (F i) v0 else evl (F j) (V j)) = (fun j => evl (F j) (if j = i then v0 else V j)) := by
      funext j
      by_cases q : j = i
      · subst q; rw [if_pos rfl, if_pos rfl]
      · rw [if_neg q, if_neg q]
    rw [← e]
    exact hs
  · have hgl := hM.gl
    have hsz := hM.size
    have hfar : ∀ q, q ≠ g → (setL w6 g (i * 10) (evl (F i) v0)).heap[q]? = w6.heap[q]? := fun q hq => setL_block _ _ hq _ _ _
    rw [setL_size]
    dsimp only
    by_cases q : j = i
    · subst q
      rw [if_pos rfl, if_pos rfl]
      exact ⟨own_kb o (fun _ => hfar b0 (by omega)), by omega, hb.2⟩
    · rw [if_neg q, if_neg q]
      obtain ⟨r1, r2, r3⟩ := hR j (by omega)
      have := k6.size
      exact ⟨own_kb r1 (fun _ => (hfar _ (by omega)).trans (k6.block _ (Nat.zero_le _) r3)), r2, by omega⟩
  · dsimp only
    by_cases q : j = i
    · subst q
      rw [if_pos rfl, if_neg (fun e => hne e.symm)]
      have := (hR j' (by omega)).2.2
      omega
    · rw [if_neg q]
      by_cases q' : j' = i
      · subst q'
        rw [if_pos rfl]
        have := (hR j (by omega)).2.2
        omega
      · rw [if_neg q']
        exact hD j j' (by omega) (by omega) hne
/-- events in blocks of their own between L and H -/
structure OwX (L H : Nat) (W : World) (v : Value) (n : Nat) (F : Nat → Ev) (g : Nat) (V : Nat → Value) (G : Nat → Nat) : Prop where
  sl : ∃ c, v = .slice (some ⟨g, 0, none⟩) n c ∧ n ≤ c
  bg : L ≤ g ∧ g < H
  ce : ∀ j, j < n → ∀ t, t < 10 → W.cell? ⟨g, j * 10 + t, none⟩ = (evl (F j) (V j))[t]?
  fz : ∀ j, W.frozen? ⟨g, j, none⟩ = false
  ow : ∀ i, i < n → OwnR W (V i) (G i) (F i).q (evb (F i))
  lo : ∀ i, i < n → L ≤ G i ∧ G i < H ∧ G i ≠ g
  di : ∀ i j, i < n → j < n → i ≠ j → G i ≠ G j
theorem OwX.block {L H : Nat} {W W' : World} {v : Value} {n : Nat} {F : Nat → Ev} {g : Nat} {V : Nat → Value} {G : Nat → Nat} (h : OwX L H W v n F g V G) (hb : ∀ q, L ≤ q → q < H → W'.heap[q]? = W.heap[q]?) : OwX L H W' v n F g V G :=
  ⟨h.sl, h.bg, fun j hj t ht => (World.cell?_of_block (hb g h.bg.1 h.bg.2)).trans (h.ce j hj t ht), fun j => (World.frozen?_of_block (hb g h.bg.1 h.bg.2)).trans (h.fz j), fun i hi => own_kb (h.ow i hi) (fun _ => hb _ (h.lo i hi).1 (h.lo i hi).2.1), h.lo, h.di⟩
theorem OwX.row {L H : Nat} {W : World} {v : Value} {n : Nat} {F : Nat → Ev} {g : Nat} {V : Nat → Value} {G : Nat → Nat} (h : OwX L H W v n F g V G) : RowEv W v n F := by
  obtain ⟨c, e, hc⟩ := h.sl
  refine ⟨_, _, e, fun _ => ⟨_, rfl, hc, fun i hi => ?_⟩⟩
  obtain ⟨p, c', e', _⟩ := (h.ow i hi).sl
  refine ⟨p, c', ?_, by rw [← e']; exact (h.ow i hi).row⟩
  rw [addr0]
  have ce := h.ce i hi
  rw [e'] at ce
  exact ⟨ce 0 (by omega), ce 1 (by omega), ce 2 (by omega), ce 3 (by omega), ce 4 (by omega), ce 5 (by omega), ce 6 (by omega), ce 7 (by omega), ce 8 (by omega), ce 9 (by omega)⟩
theorem TsX.own {w1 : World} {g n cap : Nat} {F : Nat → Ev} {wr : World} (h : TsX w1 g n F n wr) (hc : n ≤ cap) (hg : w1.heap.size = g + 1) : ∃ V G, OwX g wr.heap.size wr (.slice (some ⟨g, 0, none⟩) n cap) n F g V G := by
  obtain ⟨V, G, hM, hR, hD⟩ := h
  have := hM.size
  exact ⟨V, G, ⟨_, rfl, hc⟩, ⟨Nat.le_refl _, by omega⟩, hM.ce, hM.fz, fun i hi => (hR i hi).1, fun i hi => ⟨by have := (hR i hi).2.1; omega, (hR i hi).2.2, by have := (hR i hi).2.1; omega⟩, fun i j hi hj hne => hD i j hi hj hne⟩
set_option maxHeartbeats 16000000 in
theorem to_evs {va : Value} {n : Nat} {F : Nat → Ev} (w : World) (ha : RowEv w va n F) (hn : n ≤ 1048576) (hF : ∀ i, i < n → (F i).q ≤ 1048576) :
    Calls Try.prog 17 #[va] w fun e w' => ∃ v g V G, e = .returned v ∧ OwX w.heap.size w'.heap.size w' v n F g V G ∧ Kb 0 w w' := by
  obtain ⟨pa, ca, rfl, ha2⟩ := ha
  have hnI : (n : Int) ≤ 1048576 := by omega
  have hmk := run_make (P := Try.prog) w 43 35 Try.t35 (.agg #[.int .i64 0, .int .i64 0, .int .i64 0, .string ⟨#[]⟩, .string ⟨#[]⟩, .int .i64 0, .int .i64 0, .int .i64 0, .string ⟨#[]⟩, .slice none 0 0]) Try.underlying43 (by kernel_rfl) (by kernel_rfl) .i64 .i64 (n : Int) (n : Int) (by omega) (Int.le_refl _) (by show (120 : Int) * (n : Int) ≤ _; omega) (by omega)
  rw [Int.toNat_natCast] at hmk
  obtain ⟨w1, hw1⟩ : ∃ w1, w1 = w.alloc (.cells (madeCells (.agg #[.int .i64 0, .int .i64 0, .int .i64 0, .string ⟨#[]⟩, .string ⟨#[]⟩, .int .i64 0, .int .i64 0, .int .i64 0, .string ⟨#[]⟩, .slice none 0 0] : Value).cells (n * 10)) 35) := ⟨_, rfl⟩
  have hmk2 := hmk
  rw [show n * Try.t35.size = n * 10 from rfl, ← hw1] at hmk2
  clear hmk
  have hk1 : Kb 0 w w1 := by rw [hw1]; exact kb_alloc _ _ _
  have hz1 : w1.heap.size = w.heap.size + 1 := by rw [hw1]; simp
  obtain ⟨G, hG⟩ : ∃ G, G = w.heap.size := ⟨_, rfl⟩
  have HI0 : Hid (TsX w1 G n F 0 w1) := by
    refine (⟨fun _ => .slice none 0 0, fun _ => 0, ?_, fun j hj => by omega, fun j j' hj => by omega⟩ : TsX w1 G n F 0 w1)
    rw [hG, hw1]
    exact mk_zero w _ 10 _ n _ rfl
  have HA : Hid ((0 < n → ∃ a : Addr, pa = some a ∧ n ≤ ca ∧ ∀ i, i < n → ∃ pk ck, CelE w (a.add (i * 10)) (F i) (.slice pk (F i).q ck) ∧ RowV w (.slice pk (F i).q ck) (F i).q (fun j => .bool ((F i).A j))) ∧ Kb 0 w w1 ∧ G = w.heap.size ∧ w1.heap.size = G + 1 ∧ (∀ i, i < n → (F i).q ≤ 1048576)) := (⟨ha2, hk1, hG, by omega, hF⟩ : _ ∧ _)
  rw [← hG] at hmk2
  clear ha2 hk1 hw1 hn hG hF hz1
  go_enter Try.func17, Try.ntmps17
  go_wp2_with fail
  go_loopw [4] (fun s4 wr => ∃ i : Nat, s4 = .int .i64 (i : Int) ∧ i ≤ n ∧ Hid (TsX w1 G n F i wr)) (fun s4 _ => n - (intOf s4).toNat)
  case atStart => exact ⟨0, rfl, Nat.zero_le _, HI0⟩
  case round =>
    clear HI0 hmk2
    obtain ⟨i, rfl, hin, HI⟩ := hrel
    have hT0 := (show TsX w1 G n F i wr from HI)
    obtain ⟨V, Gf, hM, hR, hD⟩ := id hT0
    obtain ⟨hA1, hA2, hAG, hA4, hA5⟩ := (show _ ∧ _ ∧ _ ∧ _ ∧ _ from HA)
    have hBW : Kb 0 w wr := ⟨hM.os.trans hA2.os, hM.output.trans hA2.output, Nat.le_trans hA2.size hM.size, fun b _ hb => (hM.block b (Nat.lt_of_lt_of_le hb hA2.size) (by omega)).trans (hA2.block b (Nat.zero_le _) hb)⟩
    rcases Nat.lt_or_ge i n with hi | hi
    · have hiI : (i : Int) < (n : Int) := by omega
      obtain ⟨a, rfl, hca, hra⟩ := hA1 (by omega)
      obtain ⟨q0, r0, hcel, hvc⟩ := hra i hi
      obtain ⟨d0, d1, d2, d3, d4, d5, d6, d7, d8, d9⟩ := hcel.keep hBW
      have y1 := hA5 i hi
      have HT : Hid (Calls Try.prog 12 #[.agg #[.int .i64 (F i).op, .int .i64 (F i).n, .int .i64 (F i).m, .string (F i).x, .string (F i).y, .int .i64 (F i).k, .int .i64 (F i).f, .int .i64 (F i).l, .string (F i).z, .slice q0 (F i).q r0]] wr fun e w' => ∃ px cx gx, e = .returned (.agg #[.int .i64 (F i).op, .int .i64 (F i).n, .int .i64 (F i).m, .string (F i).x, .string (F i).y, .int .i64 (F i).k, .int .i64 (F i).f, .int .i64 (F i).l, .string (F i).z, .slice px (F i).q cx]) ∧ wr.heap.size ≤ gx ∧ gx < w'.heap.size ∧ OwnR w' (.slice px (F i).q cx) gx (F i).q (fun j => .bool ((F i).A j)) ∧ Kb 0 wr w') := to_event wr ((hvc.rowB.keep hBW).row) y1
      have HS : Hid (∀ w6 (v0 : Value) (b0 : Nat), Kb 0 wr w6 → OwnR w6 v0 b0 (F i).q (evb (F i)) → (wr.heap.size ≤ b0 ∧ b0 < w6.heap.size) → (∀ t, t < 10 → ∃ u, w6.cell? ⟨G, i * 10 + t, none⟩ = some u) ∧ (∀ j, w6.frozen? ⟨G, j, none⟩ = false) ∧ TsX w1 G n F (i + 1) (setL w6 G (i * 10) (evl (F i) v0))) := (fun w6 v0 b0 k6 o hb => hT0.step hi k6 o hb : ∀ w6 (v0 : Value) (b0 : Nat), _)
      clear hA1 hA2 hAG hA4 hA5 HA hM hR hD hT0 HI hra hin hBW hvc y1 hcel
      go_wp2_with fail
      refine (show Calls Try.prog 12 #[.agg #[.int .i64 (F i).op, .int .i64 (F i).n, .int .i64 (F i).m, .string (F i).x, .string (F i).y, .int .i64 (F i).k, .int .i64 (F i).f, .int .i64 (F i).l, .string (F i).z, .slice q0 (F i).q r0]] wr _ from HT).mono ?_
      rintro e w6 ⟨p0, l0, b0, rfl, hb1, hb2, o6, k6⟩
      obtain ⟨hc, hf, hT⟩ := (show ∀ w6 (v0 : Value) (b0 : Nat), _ from HS) w6 (.slice p0 (F i).q l0) b0 k6 o6 ⟨hb1, hb2⟩
      obtain ⟨u0, hu0⟩ := hc 0 (by omega)
      have h0 : w6.cell? ⟨G, i * 10, none⟩ = some u0 := hu0
      have f0 : w6.frozen? ⟨G, i * 10, none⟩ = false := hf _
      obtain ⟨u1, hu1⟩ := hc 1 (by omega)
      have h1 : w6.cell? ⟨G, i * 10 + 1, none⟩ = some u1 := hu1
      have f1 : w6.frozen? ⟨G, i * 10 + 1, none⟩ = false := hf _
      obtain ⟨u2, hu2⟩ := hc 2 (by omega)
      have h2 : w6.cell? ⟨G, i * 10 + 2, none⟩ = some u2 := hu2
      have f2 : w6.frozen? ⟨G, i * 10 + 2, none⟩ = false := hf _
      obtain ⟨u3, hu3⟩ := hc 3 (by omega)
      have h3 : w6.cell? ⟨G, i * 10 + 3, none⟩ = some u3 := hu3
      have f3 : w6.frozen? ⟨G, i * 10 + 3, none⟩ = false := hf _
      obtain ⟨u4, hu4⟩ := hc 4 (by omega)
      have h4 : w6.cell? ⟨G, i * 10 + 4, none⟩ = some u4 := hu4
      have f4 : w6.frozen? ⟨G, i * 10 + 4, none⟩ = false := hf _
      obtain ⟨u5, hu5⟩ := hc 5 (by omega)
      have h5 : w6.cell? ⟨G, i * 10 + 5, none⟩ = some u5 := hu5
      have f5 : w6.frozen? ⟨G, i * 10 + 5, none⟩ = false := hf _
      obtain ⟨u6, hu6⟩ := hc 6 (by omega)
      have h6 : w6.cell? ⟨G, i * 10 + 6, none⟩ = some u6 := hu6
      have f6 : w6.frozen? ⟨G, i * 10 + 6, none⟩ = false := hf _
      obtain ⟨u7, hu7⟩ := hc 7 (by omega)
      have h7 : w6.cell? ⟨G, i * 10 + 7, none⟩ = some u7 := hu7
      have f7 : w6.frozen? ⟨G, i * 10 + 7, none⟩ = false := hf _
      obtain ⟨u8, hu8⟩ := hc 8 (by omega)
      have h8 : w6.cell? ⟨G, i * 10 + 8, none⟩ = some u8 := hu8
      have f8 : w6.frozen? ⟨G, i * 10 + 8, none⟩ = false := hf _
      obtain ⟨u9, hu9⟩ := hc 9 (by omega)
      have h9 : w6.cell? ⟨G, i * 10 + 9, none⟩ = some u9 := hu9
      have f9 : w6.frozen? ⟨G, i * 10 + 9, none⟩ = false := hf _
      have HTT : Hid (TsX w1 G n F (i + 1) ((((((((((w6.setCell ⟨G, i * 10, none⟩ (.int .i64 (F i).op)).setCell ⟨G, i * 10 + 1, none⟩ (.int .i64 (F i).n)).setCell ⟨G, i * 10 + 2, none⟩ (.int .i64 (F i).m)).setCell ⟨G, i * 10 + 3, none⟩ (.string (F i).x)).setCell ⟨G, i * 10 + 4, none⟩ (.string (F i).y)).setCell ⟨G, i * 10 + 5, none⟩ (.int .i64 (F i).k)).setCell ⟨G, i * 10 + 6, none⟩ (.int .i64 (F i).f)).setCell ⟨G, i * 10 + 7, none⟩ (.int .i64 (F i).l)).setCell ⟨G, i * 10 + 8, none⟩ (.string (F i).z)).setCell ⟨G, i * 10 + 9, none⟩ (.slice p0 (F i).q l0))) := hT
      clear hc hf hT HS HT k6 o6 hb1 hb2 d0 d1 d2 d3 d4 d5 d6 d7 d8 d9 hu0 hu1 hu2 hu3 hu4 hu5 hu6 hu7 hu8 hu9
      go_wp2_with fail
      go_roundw
      case rel => exact ⟨i + 1, by go_num, by omega, HTT⟩
      case measure => simp [intOf]; omega
    · obtain rfl : i = n := by omega
      have HE : Hid (TsX w1 G i F i wr ∧ Kb 0 w wr ∧ G = w.heap.size ∧ w1.heap.size = G + 1) := (⟨hT0, hBW, hAG, hA4⟩ : _ ∧ _)
      clear HI hM hR hD hA1 hA2 hAG hA4 hA5 HA hBW hT0
      go_wp2_with fail
      go_ret
      obtain ⟨hT, hB, hG, hz⟩ := (show _ ∧ _ ∧ _ ∧ _ from HE)
      obtain ⟨V, Gf, ho⟩ := hT.own (Nat.le_refl i) hz
      subst hG
      exact ⟨_, _, V, Gf, rfl, ho, hB⟩
end Go.Proofs.Ytaoagjajjeddcaa.Fo
