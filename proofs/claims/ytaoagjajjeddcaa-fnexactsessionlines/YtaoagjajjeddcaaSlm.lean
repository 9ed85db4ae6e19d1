import Derived.Test.YtaoagjajjeddcaaSll
namespace Go.Proofs.Ytaoagjajjeddcaa.Fo
open Go.ChangeShapes Go.WideShapes Go.ChangeAt Go.RowKit
set_option linter.unusedVariables false
set_option maxRecDepth 100000

def sA (L : List ByteArray) : Nat → ByteArray := fun i => L.getD i ⟨#[]⟩
theorem own_row9 {W : World} {B : Nat} {v : Value} {L : List ByteArray} (h : W.ownsRow B 9 1 v L.length (L.map Value.string)) : ∃ g, OwnR W v g L.length (fun i => .string (sA L i)) ∧ (0 < L.length → B ≤ g ∧ g < W.heap.size) := by
  rcases h.2 with ⟨e, e2⟩ | ⟨g, cap, cur, e, h2, h3, h4, h5, h6, h7⟩
  · refine ⟨0, ⟨⟨none, 0, by rw [e, e2], fun q => by omega⟩, fun i hi => by omega, fun q => by omega⟩, fun q => by omega⟩
  · refine ⟨g, ⟨⟨_, _, e, fun _ => ⟨rfl, h4⟩⟩, fun i hi => cell_of h3 ?_, fun _ j => frozen_of h3⟩, fun _ => ⟨h2, (Array.getElem?_eq_some_iff.1 h3).1⟩⟩
    have hs : L[i]? = some (sA L i) := by unfold sA; rw [List.getD_eq_getElem?_getD, List.getElem?_eq_getElem hi]; rfl
    have e7 : (cur.toList.take (L.length * 1))[i]? = some (.string (sA L i)) := by rw [h7, List.getElem?_map, hs]; rfl
    rw [Nat.mul_one, List.getElem?_take_of_lt hi] at e7
    simpa using e7
theorem Kb.mk9 {a w w' : World} {S : Nat → Prop} (h : Kb 0 a w) (k : Kq S w w') (hS : ∀ q, S q → a.heap.size ≤ q) : Kb 0 a w' :=
  ⟨k.os.trans h.os, k.output.trans h.output, Nat.le_trans h.size k.size, fun q h1 h2 => (k.block q (Nat.lt_of_lt_of_le h2 h.size) (fun hs => by have := hS q hs; omega)).trans (h.block q h1 h2)⟩
theorem kb_dr {W w' : World} (h : ∃ d, w' = W.drewN d) : Kb 0 W w' := by
  obtain ⟨d, rfl⟩ := h
  exact (Kb.refl 0 W).drewN d
set_option maxHeartbeats 32000000 in
theorem law_sess {va : Value} {n : Nat} {F : Nat → Ev} (w : World) (ha : RowEv w va n F) (hn : (n : Int) < 140737488355328) (hF : ∀ i, i < n → EvZ (F i)) :
    Calls Try.prog 5 #[va] w fun e w' => e = .returned (.bool true) ∧ Kb 0 w w' := by
  obtain ⟨pa, ca, rfl, -⟩ := id ha
  have HS := sz_evs w ha hn hF
  have HX : Hid (RowEv w (.slice pa n ca) n F ∧ ∀ i, i < n → EvZ (F i)) := (⟨ha, hF⟩ : _ ∧ _)
  clear ha hn hF
  go_enter Try.func5, Try.ntmps5
  go_wp2_with fail
  refine HS.mono ?_
  rintro e w1 ⟨r, rfl, hr, k1⟩
  clear HS
  by_cases h : r < 0
  · have HFz : Hid (Kb 0 w w1) := k1
    clear k1 hr HX
    go_wp2_with fail
    go_ret
    exact ⟨rfl, HFz⟩
  have hnq : (n : Int) + (qsm F n : Int) ≤ 1048576 := by rcases hr with hr | hr <;> omega
  have hn1 : n ≤ 1048576 := by omega
  have hF1 : ∀ i, i < n → (F i).q ≤ 1048576 := fun i hi => by have := q_le F n i hi; omega
  obtain ⟨N, hN⟩ : ∃ N, N = (Lns F n).length := ⟨_, rfl⟩
  have hNle : N ≤ 60000000 := by have := Lns_len F n; omega
  have HTO : Hid (∀ W, Kb 0 w W → Calls Try.prog 17 #[.slice pa n ca] W fun e w' => ∃ p c, e = .returned (.slice p n c) ∧ (∃ g V G, OwX W.heap.size w'.heap.size w' (.slice p n c) n F g V G) ∧ Kb 0 W w') := (fun W k => (to_evs W ((show _ ∧ _ from HX).1.keep k) hn1 hF1).mono (fun e w' ⟨v, g, V, G, h1, h2, h3⟩ => by obtain ⟨c, rfl, _⟩ := h2.sl; exact ⟨_, _, h1, ⟨g, V, G, h2⟩, h3⟩) : ∀ W, _)
  have HSP : Hid (∀ W p c, RowEv W (.slice p n c) n F → Calls Try.prog 16 #[.slice p n c] W fun e w' => ∃ p c g, e = .returned (.slice p N c) ∧ OwnR w' (.slice p N c) g N (fun i => .string (sA (Lns F n) i)) ∧ (0 < N → W.heap.size ≤ g ∧ g < w'.heap.size) ∧ Kb 0 W w') := (fun W p c hrow => (sp_sess W hrow hn1 (show _ ∧ _ from HX).2).mono (fun e w' ⟨v, h1, h2, h3⟩ => by rw [hN]; obtain ⟨p, c, rfl, _⟩ := own_cap h2; obtain ⟨g, h4, h5⟩ := own_row9 h2; exact ⟨_, _, g, h1, h4, h5, h3⟩) : ∀ W p c, _)
  have HIM : Hid (∀ W p c, RowEv W (.slice p n c) n F → Calls Try.prog 18 #[.slice p n c] W fun e w' => ∃ p c g, e = .returned (.slice p N c) ∧ OwnR w' (.slice p N c) g N (fun i => .string (sA (Lns F n) i)) ∧ (0 < N → W.heap.size ≤ g ∧ g < w'.heap.size) ∧ Kb 0 W w') := (fun W p c hrow => (im_sess W hrow hn1 (show _ ∧ _ from HX).2).mono (fun e w' ⟨v, h1, h2, h3⟩ => by rw [hN]; obtain ⟨p, c, rfl, _⟩ := own_cap h2; obtain ⟨g, h4, h5⟩ := own_row9 h2; exact ⟨_, _, g, h1, h4, h5, h3⟩) : ∀ W p c, _)
  have HEV : Hid (∀ (W : World) x y, RowEv W x n F → RowEv W y n F → Calls Try.prog 20 #[x, y] W fun e w' => e = .returned (.bool true) ∧ Kb 0 W w') := (fun W x y h1 h2 => eq_evs W h1 h2 hn1 hF1 : ∀ (W : World) x y, _)
  generalize sA (Lns F n) = AA at HSP HIM
  have HES : Hid (∀ (W : World) x y, RowV W x N (fun i => .string (AA i)) → RowV W y N (fun i => .string (AA i)) → Calls Try.prog 19 #[x, y] W fun e w' => e = .returned (.bool true) ∧ Kb 0 W w') := (fun W x y h1 h2 => (eq_strs9 W h1 h2 hNle).mono (fun e w' ⟨h1, h2⟩ => ⟨h1, kb_dr h2⟩) : ∀ (W : World) x y, _)
  have HNQ : Hid ((n : Int) + (qsm F n : Int) ≤ 1048576 ∧ N ≤ 60000000) := (⟨hnq, hNle⟩ : _ ∧ _)
  have HK1 : Hid (Kb 0 w w1) := k1
  have HT1 := (show ∀ W, Kb 0 w W → _ from HTO) w1 k1
  clear k1 hr hnq hn1 hF1 hN hNle HX
  go_wp2_with fail
  refine HT1.mono ?_
  rintro e w2 ⟨p2, c2, rfl, ⟨g2, V2, G2, o2⟩, k2⟩
  have HS2 := (show ∀ W p c, _ from HSP) w2 p2 c2 o2.row
  have HK2 : Hid (Kb 0 w w2) := (show Kb 0 w w1 from HK1).trans k2
  clear HT1 o2 k2 HK1 HSP
  go_wp2_with fail
  refine HS2.mono ?_
  rintro e w3 ⟨p3, c3, g3, rfl, o3, -, k3⟩
  have HK3 : Hid (Kb 0 w w3 ∧ RowV w3 (.slice p3 N c3) N (fun i => .string (AA i))) := (⟨(show Kb 0 w w2 from HK2).trans k3, o3.row⟩ : _ ∧ _)
  have HT3 := (show ∀ W, Kb 0 w W → _ from HTO) w3 ((show Kb 0 w w2 from HK2).trans k3)
  clear HS2 k3 o3 HK2
  go_wp2_with fail
  refine HT3.mono ?_
  rintro e w4 ⟨p4, c4, rfl, ⟨g4, V4, G4, o4⟩, k4⟩
  have HI4 := (show ∀ W p c, _ from HIM) w4 p4 c4 o4.row
  have H4 : Hid (Kb 0 w3 w4 ∧ OwX w3.heap.size w4.heap.size w4 (.slice p4 n c4) n F g4 V4 G4) := (⟨k4, o4⟩ : _ ∧ _)
  clear HT3 o4 k4
  go_wp2_with fail
  refine HI4.mono ?_
  rintro e w5 ⟨p5, c5, g5, rfl, o5, b5, k5⟩
  obtain ⟨k34, o4⟩ := (show _ ∧ _ from H4)
  obtain ⟨kw3, r3⟩ := (show _ ∧ _ from HK3)
  have k35 := k34.trans k5
  have HE5 := (show ∀ (W : World) x y, _ from HES) w5 _ _ o5.row ((r3.rowB.keep k35).row)
  have H5 : Hid (Kb 0 w4 w5 ∧ OwnR w5 (.slice p5 N c5) g5 N (fun i => .string (AA i)) ∧ (0 < N → w4.heap.size ≤ g5 ∧ g5 < w5.heap.size)) := (⟨k5, o5, b5⟩ : _ ∧ _)
  clear HI4 k34 o4 kw3 r3 k35 o5 b5 k5
  go_wp2_with fail
  refine HE5.mono ?_
  rintro e w6 ⟨rfl, k6⟩
  obtain ⟨k34, o4⟩ := (show _ ∧ _ from H4)
  obtain ⟨kw3, r3⟩ := (show _ ∧ _ from HK3)
  obtain ⟨k45, o5, b5⟩ := (show _ ∧ _ ∧ _ from H5)
  have kw6 := ((kw3.trans k34).trans k45).trans k6
  have HT6 := (show ∀ W, Kb 0 w W → _ from HTO) w6 kw6
  have H6 : Hid (Kb 0 w5 w6) := k6
  clear HE5 k34 o4 kw3 r3 k45 o5 b5 kw6 k6
  go_wp2_with fail
  refine HT6.mono ?_
  rintro e w7 ⟨p7, c7, rfl, ⟨g7, V7, G7, o7⟩, k7⟩
  obtain ⟨k34, o4⟩ := (show _ ∧ _ from H4)
  obtain ⟨k45, o5, b5⟩ := (show _ ∧ _ ∧ _ from H5)
  have k57 := (show Kb 0 w5 w6 from H6).trans k7
  have k47 := k45.trans k57
  have HE7 := (show ∀ (W : World) x y, _ from HEV) w7 _ _ (o4.row.keep k47) o7.row
  have H7 : Hid (Kb 0 w5 w7) := k57
  clear HT6 k34 o4 k45 o5 b5 k57 k47 o7 k7 H6
  go_wp2_with fail
  refine HE7.mono ?_
  rintro e w8 ⟨rfl, k8⟩
  obtain ⟨k34, o4⟩ := (show _ ∧ _ from H4)
  obtain ⟨k45, o5, b5⟩ := (show _ ∧ _ ∧ _ from H5)
  have k58 := (show Kb 0 w5 w7 from H7).trans k8
  have k48 := k45.trans k58
  have HM8 := mark_evs w8 (o4.block (fun q _ hq => k48.block q (Nat.zero_le _) hq)) k48.size (show _ ∧ _ from HNQ).1
  have H8 : Hid (Kb 0 w5 w8) := k58
  clear HE7 k34 o4 k45 o5 b5 k58 k48 k8 H7
  go_wp2_with fail
  refine HM8.mono ?_
  rintro e w9 ⟨k', rfl, hk', kq9⟩
  have hk0 : ¬ k' < 0 := by omega
  obtain ⟨k34, o4⟩ := (show _ ∧ _ from H4)
  obtain ⟨kw3, r3⟩ := (show _ ∧ _ from HK3)
  obtain ⟨k45, o5, b5⟩ := (show _ ∧ _ ∧ _ from H5)
  have k58 := (show Kb 0 w5 w8 from H8)
  have k39 : Kb 0 w3 w9 := ((k34.trans k45).trans k58).mk9 kq9 (fun q hq => hq.1)
  have z45 := k45.size
  have z58 := k58.size
  have o9 : OwnR w9 (.slice p5 N c5) g5 N (fun i => .string (AA i)) := own_kb o5 (fun h0 => (kq9.block g5 (by have := b5 h0; omega) (fun hq => by have := b5 h0; omega)).trans (k58.block g5 (Nat.zero_le _) (b5 h0).2))
  have HE9 := (show ∀ (W : World) x y, _ from HES) w9 _ _ o9.row ((r3.rowB.keep k39).row)
  have H9 : Hid (Kb 0 w3 w9 ∧ OwnR w9 (.slice p5 N c5) g5 N (fun i => .string (AA i)) ∧ (0 < N → w3.heap.size ≤ g5 ∧ g5 < w9.heap.size)) := (⟨k39, o9, fun h0 => ⟨by have := b5 h0; have := k34.size; omega, by have := b5 h0; have := kq9.size; omega⟩⟩ : _ ∧ _)
  clear HM8 hk' k34 o4 kw3 r3 k45 o5 b5 k58 k39 z45 z58 o9 kq9 H8 H5 H4 HEV
  go_wp2_with fail
  refine HE9.mono ?_
  rintro e w10 ⟨rfl, k10⟩
  obtain ⟨k39, o9, b9⟩ := (show _ ∧ _ ∧ _ from H9)
  have o10 : OwnR w10 (.slice p5 N c5) g5 N (fun i => .string (AA i)) := own_kb o9 (fun h0 => k10.block g5 (Nat.zero_le _) (b9 h0).2)
  have HM10 := mark_strs w10 1 o10 (show _ ∧ _ from HNQ).2 (by omega) (by omega)
  have H10 : Hid (Kb 0 w3 w10 ∧ (0 < N → w3.heap.size ≤ g5 ∧ g5 < w10.heap.size)) := (⟨k39.trans k10, fun h0 => ⟨(b9 h0).1, by have := (b9 h0).2; have := k10.size; omega⟩⟩ : _ ∧ _)
  rw [show ((1 : Nat) : Int) = 1 from rfl] at HM10
  obtain ⟨KG, hKG⟩ : ∃ KG : Int, KG = 1 + (N : Int) := ⟨_, rfl⟩
  rw [← hKG] at HM10
  have hKG0 : ¬ KG < 0 := by omega
  have hKG1 : (KG != KG) = false := by simp
  have HKG : Hid (KG = 1 + (N : Int)) := hKG
  clear HE9 k39 o9 b9 o10 k10 H9 hKG
  go_wp2_with fail
  refine HM10.mono ?_
  rintro e w11 ⟨rfl, kq11, o11⟩
  obtain ⟨k310, b10⟩ := (show _ ∧ _ from H10)
  have k311 : Kb 0 w3 w11 := k310.mk9 kq11 (fun q hq => by have := b10 hq.1; have := hq.2; omega)
  have b11 : 0 < N → g5 < w11.heap.size := fun h0 => by have := (b10 h0).2; have := kq11.size; omega
  have HHD : Hid (∀ W : World, Kb 0 w11 W → Calls Try.prog 23 #[.slice p5 N c5, .int .i64 1] W fun e w' => e = .returned (.int .i64 KG) ∧ Kb 0 W w') := (fun W k => by
    rw [show KG = _ from HKG]
    exact (held_strs W 1 (own_kb o11 (fun h0 => k.block g5 (Nat.zero_le _) (b11 h0))) (show _ ∧ _ from HNQ).2 (by omega) (by omega)).mono (fun e w' ⟨h1, h2⟩ => ⟨h1, Kb.of_below h2 0⟩) : ∀ W : World, _)
  have HH11 := (show ∀ W : World, Kb 0 w11 W → _ from HHD) w11 (Kb.refl _ _)
  have H11 : Hid (Kb 0 w3 w11) := k311
  clear HM10 k310 b10 k311 b11 kq11 o11 H10
  go_wp2_with fail
  refine HH11.mono ?_
  rintro e w12 ⟨rfl, k12⟩
  obtain ⟨kw3, r3⟩ := (show _ ∧ _ from HK3)
  have HT12 := (show ∀ W, Kb 0 w W → _ from HTO) w12 (kw3.trans ((show Kb 0 w3 w11 from H11).trans k12))
  have H12 : Hid (Kb 0 w11 w12) := k12
  clear HH11 kw3 r3 k12
  go_wp2_with fail
  refine HT12.mono ?_
  rintro e w13 ⟨p13, c13, rfl, ⟨g13, V13, G13, o13⟩, k13⟩
  have HI13 := (show ∀ W p c, _ from HIM) w13 p13 c13 o13.row
  have H13 : Hid (Kb 0 w11 w13) := (show Kb 0 w11 w12 from H12).trans k13
  clear HT12 o13 k13 H12
  go_wp2_with fail
  refine HI13.mono ?_
  rintro e w14 ⟨p14, c14, g14, rfl, o14, -, k14⟩
  obtain ⟨kw3, r3⟩ := (show _ ∧ _ from HK3)
  have k1114 := (show Kb 0 w11 w13 from H13).trans k14
  have k314 := (show Kb 0 w3 w11 from H11).trans k1114
  have HE14 := (show ∀ (W : World) x y, _ from HES) w14 _ _ o14.row ((r3.rowB.keep k314).row)
  have H14 : Hid (Kb 0 w w14 ∧ Kb 0 w11 w14) := (⟨kw3.trans k314, k1114⟩ : _ ∧ _)
  clear HI13 kw3 r3 k1114 k314 o14 k14 H13
  go_wp2_with fail
  refine HE14.mono ?_
  rintro e w15 ⟨rfl, k15⟩
  obtain ⟨kw14, k1114⟩ := (show _ ∧ _ from H14)
  have HH15 := (show ∀ W : World, Kb 0 w11 W → _ from HHD) w15 (k1114.trans k15)
  have H15 : Hid (Kb 0 w w15) := kw14.trans k15
  clear HE14 kw14 k1114 k15 H14
  go_wp2_with fail
  refine HH15.mono ?_
  rintro e w16 ⟨rfl, k16⟩
  have HFz : Hid (Kb 0 w w16) := (show Kb 0 w w15 from H15).trans k16
  clear HH15 k16 H15
  go_wp2_with fail
  go_ret
  exact ⟨rfl, HFz⟩
end Go.Proofs.Ytaoagjajjeddcaa.Fo
