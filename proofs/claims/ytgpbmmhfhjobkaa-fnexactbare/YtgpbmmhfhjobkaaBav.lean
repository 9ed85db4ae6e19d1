import Derived.Test.YtgpbmmhfhjobkaaBau
namespace Go.Proofs.Ytgpbmmhfhjobkaa
open Go.ChangeShapes Go.WideShapes Go.ChangeAt Go.RowKit
set_option linter.unusedVariables false
theorem below_kq {S : Nat → Prop} {a W W' : World} (h : Below a.heap.size a W) (k : Kq S W W') (hs : ∀ b, S b → a.heap.size ≤ b) : Below a.heap.size a W' :=
  ⟨k.os.trans h.os, k.tape.trans h.tape, k.output.trans h.output, Nat.le_trans h.size k.size, fun b hb => (k.block b (Nat.lt_of_lt_of_le hb h.size) (fun f => by have := hs b f; omega)).trans (h.block b hb)⟩
theorem below_to {a W W' : World} (h : Below a.heap.size a W) (k : Below W.heap.size W W') : Below a.heap.size a W' := h.trans (k.mono h.size)
theorem below_al {a W : World} (h : Below a.heap.size a W) (o : Obj) : Below a.heap.size a (W.alloc o) := below_to h (bel1 W o)
theorem cell_new (W : World) (v : Value) (t : TypeId) : (W.alloc (.cells #[v] t)).cell? ⟨W.heap.size, 0, none⟩ = some v := by
  rw [World.cell?_alloc_at _ _ _ _ rfl]; rfl
theorem cell_keep {a W : World} {b : Nat} {v : Value} (h : Below a.heap.size a W) (hc : a.cell? ⟨b, 0, none⟩ = some v) : W.cell? ⟨b, 0, none⟩ = some v := (h.cell (p := ⟨b, 0, none⟩) (lt_of_cell hc)).trans hc
set_option maxRecDepth 100000 in
set_option maxHeartbeats 16000000 in
theorem law_bare {pa : Option Addr} {ca n : Nat} {F : Nat → Gv} (w : World) (ha : RowF w (.slice pa n ca) n F) (hn : (n : Int) < 140737488355328)
    (hF : ∀ i, i < n → ((F i).a.x.size : Int) < 140737488355328 ∧ ((F i).p : Int) < 140737488355328 ∧ (∀ j, j < (F i).p → (((F i).A j).size : Int) < 140737488355328) ∧ ((F i).q : Int) < 140737488355328) :
    Calls Try.prog 3 #[.agg #[.slice pa n ca]] w fun e w' => e = .returned (.bool true) ∧ Below w.heap.size w w' := by
  have HSZ : Hid (∀ o : Obj, Calls Try.prog 4 #[.agg #[.slice pa n ca], .int .i64 1048576] (w.alloc o) fun e w' => ∃ r : Int, e = .returned (.int .i64 r) ∧ (0 ≤ r → (n : Int) + (smr F n : Int) ≤ 1048576) ∧ -1 ≤ r ∧ r ≤ 1048576 ∧ Below (w.alloc o).heap.size (w.alloc o) w') := (fun o => sz_sheet (w.alloc o) (ha.below (bel1 _ _)) hn hF : ∀ o : Obj, _)
  have HF2 : Hid (∀ i, i < n → (F i).a.x.size ≤ 140737488355328 ∧ ∀ j, j < (F i).p → ((F i).A j).size ≤ 140737488355328) := (fun i hi => ⟨by have := (hF i hi).1; omega, fun j hj => by have := (hF i hi).2.2.1 j hj; omega⟩ : ∀ i, _)
  have HA : Hid (RowF w (.slice pa n ca) n F) := ha
  clear ha hn hF
  go_enter Try.func3, Try.ntmps3
  go_wp2_with fail
  refine ((show ∀ o : Obj, _ from HSZ) _).mono ?_
  rintro e w1 ⟨r, rfl, hr1, hr2, hr3, hb1⟩
  clear HSZ
  have B1 : Below w.heap.size w w1 := (bel1 w _).trans (hb1.mono (by simp))
  rcases Int.lt_or_le r 0 with h | h
  · have HB : Hid (Below w.heap.size w w1) := B1
    clear B1 hb1 hr1 HA HF2
    go_wp2_with fail
    go_ret
    exact ⟨rfl, HB⟩
  · have h' : ¬ r < 0 := by omega
    have hsum : n + smr F n ≤ 1048576 := by have := hr1 h; omega
    have hsum' : n + smr (fun i => bar (F i)) n ≤ 1048576 := by rw [smr_bar]; exact hsum
    have HS : Hid (n + smr F n ≤ 1048576 ∧ n + smr (fun i => bar (F i)) n ≤ 1048576) := (⟨hsum, hsum'⟩ : _ ∧ _)
    have c0 : w1.cell? ⟨w.heap.size, 0, none⟩ = some (.slice pa n ca) := cell_keep hb1 (cell_new w _ 24)
    have R1 : RowF w1 (.slice pa n ca) n F := (show RowF w (.slice pa n ca) n F from HA).below B1
    have HK1 : Hid (Below w.heap.size w w1 ∧ RowF w1 (.slice pa n ca) n F) := (⟨B1, R1⟩ : _ ∧ _)
    clear hr1 hsum hsum' hb1 B1 R1 HA
    go_wp2_with fail
    refine (to_sheet w1 HK1.2 HS.1).mono ?_
    rintro e w2 ⟨v1, g1, t1, rfl, o1, hb2⟩
    obtain ⟨p1, k1, rfl, _⟩ := o1.sl
    have c0' := cell_keep hb2 c0
    have HK2 : Hid (Below w.heap.size w w2 ∧ RowF w2 (.slice pa n ca) n F ∧ RowF w2 (.slice p1 n k1) n F) := (⟨HK1.1.trans (hb2.mono HK1.1.size), HK1.2.below hb2, o1.row⟩ : _ ∧ _ ∧ _)
    clear c0 HK1 o1 hb2
    go_wp2_with fail
    refine (spec_bare w2 HK2.2.2 HS.1).mono ?_
    rintro e w3 ⟨vw, gw, tw, rfl, ow, hb3⟩
    obtain ⟨pw, kw, rfl, _⟩ := ow.sl
    have c0 := cell_keep hb3 c0'
    obtain ⟨W4, hW4⟩ : ∃ W4, W4 = w3.alloc (.cells #[.slice pw n kw] 28) := ⟨_, rfl⟩
    have b34 : Below w3.heap.size w3 W4 := by rw [hW4]; exact bel1 _ _
    have z4 : W4.heap.size = w3.heap.size + 1 := by rw [hW4]; simp
    have c04 := cell_keep b34 c0
    have c44 : W4.cell? ⟨w3.heap.size, 0, none⟩ = some (.slice pw n kw) := by rw [hW4]; exact cell_new _ _ _
    have HK4 : Hid (Below w.heap.size w W4 ∧ RowF W4 (.slice pa n ca) n F ∧ RowF W4 (.slice pw n kw) n (fun i => bar (F i)) ∧ W4.cell? ⟨w.heap.size, 0, none⟩ = some (.slice pa n ca) ∧ W4.cell? ⟨w3.heap.size, 0, none⟩ = some (.slice pw n kw) ∧ W4.heap.size = w3.heap.size + 1) :=
      (⟨(HK2.1.trans (hb3.mono HK2.1.size)).trans (b34.mono (Nat.le_trans HK2.1.size hb3.size)), (HK2.2.1.below hb3).below b34, (ow.below b34).row, c04, c44, z4⟩ : _ ∧ _ ∧ _ ∧ _ ∧ _ ∧ _)
    have c0a : ∀ o : Obj, (w3.alloc o).cell? ⟨w.heap.size, 0, none⟩ = some (.slice pa n ca) := fun o => cell_keep (bel1 w3 o) c0
    clear c0' c0 HK2 ow hb3 b34 z4 c04 c44
    go_wp2_with fail
    rw [← hW4]
    refine (to_sheet W4 HK4.2.1 HS.1).mono ?_
    rintro e w5 ⟨vx, gx, tx, rfl, ox, hb5⟩
    obtain ⟨px, kx, rfl, _⟩ := ox.sl
    obtain ⟨W6, hW6⟩ : ∃ W6, W6 = w5.alloc (.cells #[.slice px n kx] 28) := ⟨_, rfl⟩
    have b56 : Below w5.heap.size w5 W6 := by rw [hW6]; exact bel1 _ _
    have z6 : W6.heap.size = w5.heap.size + 1 := by rw [hW6]; simp
    have c56 : W6.cell? ⟨w5.heap.size, 0, none⟩ = some (.slice px n kx) := by rw [hW6]; exact cell_new _ _ _
    have HK6 : Hid (Below W4.heap.size W4 W6 ∧ OwnF W6 (.slice px n kx) gx n F tx W4.heap.size w5.heap.size ∧ W6.cell? ⟨w5.heap.size, 0, none⟩ = some (.slice px n kx) ∧ W6.heap.size = w5.heap.size + 1) := (⟨below_to hb5 b56, ox.below b56, c56, z6⟩ : _ ∧ _ ∧ _ ∧ _)
    clear c0a hW4 hb5 ox b56 z6 c56
    go_wp2_with fail
    rw [← hW6]
    refine (impl_bare W6 HK6.2.1.row HS.1 HF2).mono ?_
    rintro e w7 ⟨vg, gg, tg, rfl, og, hb7⟩
    obtain ⟨pg, kg, rfl, _⟩ := og.sl
    obtain ⟨W8, hW8⟩ : ∃ W8, W8 = w7.alloc (.cells #[.slice pg n kg] 28) := ⟨_, rfl⟩
    have b78 : Below w7.heap.size w7 W8 := by rw [hW8]; exact bel1 _ _
    have z8 : W8.heap.size = w7.heap.size + 1 := by rw [hW8]; simp
    have c68 : W8.cell? ⟨w7.heap.size, 0, none⟩ = some (.slice pg n kg) := by rw [hW8]; exact cell_new _ _ _
    have b68 : Below W6.heap.size W6 W8 := below_to hb7 b78
    have b48 : Below W4.heap.size W4 W8 := below_to HK6.1 b68
    have HK8 : Hid (Below W4.heap.size W4 W8 ∧ Below W6.heap.size W6 W8 ∧ OwnF W8 (.slice pg n kg) gg n (fun i => bar (F i)) tg W6.heap.size w7.heap.size ∧ W8.cell? ⟨w7.heap.size, 0, none⟩ = some (.slice pg n kg) ∧ W8.heap.size = w7.heap.size + 1) := (⟨b48, b68, og.below b78, c68, z8⟩ : _ ∧ _ ∧ _ ∧ _ ∧ _)
    have c4a : ∀ o : Obj, (w7.alloc o).cell? ⟨w3.heap.size, 0, none⟩ = some (.slice pw n kw) := fun o => cell_keep (below_al (below_to HK6.1 hb7) o) HK4.2.2.2.2.1
    clear hW6 hb7 og b78 z8 c68 b68 b48
    go_wp2_with fail
    rw [← hW8]
    refine (eq_sheet W8 HK8.2.2.1.row (HK4.2.2.1.below HK8.1) HS.2).mono ?_
    rintro e w9 ⟨rfl, hb9⟩
    have b49 : Below W4.heap.size W4 w9 := below_to HK8.1 hb9
    have b69 : Below W6.heap.size W6 w9 := below_to HK8.2.1 hb9
    have HK9 : Hid (Below W8.heap.size W8 w9) := hb9
    have c5 : w9.cell? ⟨w5.heap.size, 0, none⟩ = some (.slice px n kx) := cell_keep b69 HK6.2.2.1
    have c0 : w9.cell? ⟨w.heap.size, 0, none⟩ = some (.slice pa n ca) := cell_keep b49 HK4.2.2.2.1
    have HTO : Hid (∀ W, Below w9.heap.size w9 W → Calls Try.prog 6 #[.agg #[.slice pa n ca]] W fun e w' => ∃ v g t, e = .returned (.agg #[v]) ∧ OwnF w' v g n F t W.heap.size w'.heap.size ∧ Below W.heap.size W w') := (fun W hb => to_sheet W (HK4.2.1.below (below_to b49 hb)) HS.1 : ∀ W, _)
    have HEQ : Hid (∀ W v2, Below w9.heap.size w9 W → RowF W v2 n F → Calls Try.prog 8 #[.agg #[.slice px n kx], .agg #[v2]] W fun e w' => e = .returned (.bool true) ∧ Below W.heap.size W w') := (fun W v2 hb h2 => eq_sheet W ((HK6.2.1.below b69).below hb).row h2 HS.1 : ∀ W v2, _)
    have HC5 : Hid (∀ W, Below w9.heap.size w9 W → W.cell? ⟨w5.heap.size, 0, none⟩ = some (.slice px n kx) ∧ W.cell? ⟨w.heap.size, 0, none⟩ = some (.slice pa n ca)) := (fun W hb => ⟨cell_keep hb c5, cell_keep hb c0⟩ : ∀ W, _)
    clear hW8 hb9 c4a b49 b69
    go_wp2_with fail
    go_region_held_law (fun W' => W'.cell? ⟨w5.heap.size, 0, none⟩ = some (.slice px n kx) ∧ W'.cell? ⟨w.heap.size, 0, none⟩ = some (.slice pa n ca)) (first | exact s11 | exact s10 | exact ⟨c5, c0⟩)
      (first
        | (go_at_call 6; refine ((show ∀ W, Below w9.heap.size w9 W → _ from HTO) _ (by exact bdn (Below.refl _ _) 1)).mono ?_; rintro e w10 ⟨v2, g2, t2, rfl, o2, hb10⟩; have B10 : Below w9.heap.size w9 w10 := ⟨hb10.os, hb10.tape, hb10.output, hb10.size, hb10.block⟩; have s10 := (show ∀ W, Below w9.heap.size w9 W → _ from HC5) w10 B10)
        | (go_at_call 8; refine ((show ∀ W v2, _ from HEQ) _ _ B10 o2.row).mono ?_; rintro e w11 ⟨rfl, hb11⟩; have B11 : Below w9.heap.size w9 w11 := below_to B10 hb11; have s11 := (show ∀ W, Below w9.heap.size w9 W → _ from HC5) w11 B11))
    have HB11 : Hid (Below w9.heap.size w9 w11) := B11
    clear c5 c0 HC5 HEQ HTO o2 hb10 B10 s10 hb11 B11 s11
    have c5 : w11.cell? ⟨w5.heap.size, 0, none⟩ = some (.slice px n kx) := cell_keep (below_to (below_to HK8.2.1 HK9) HB11) HK6.2.2.1
    have X11 : OwnF w11 (.slice px n kx) gx n F tx W4.heap.size w5.heap.size := HK6.2.1.below (below_to (below_to HK8.2.1 HK9) HB11)
    have zz : w5.heap.size ≤ w11.heap.size := by have := HK6.2.2.2; have := (below_to (below_to HK8.2.1 HK9) HB11).size; omega
    have HMK : Hid (Calls Try.prog 9 #[.agg #[.slice px n kx], .int .i64 1] w11 fun e w' => e = .returned (.int .i64 (kst F 1 n : Int)) ∧ Kq (fun b => W4.heap.size ≤ b ∧ b < w5.heap.size) w11 w' ∧ OwnF w' (.slice px n kx) gx n (mkf F 1) tx W4.heap.size w5.heap.size) := mark_sheet w11 X11 HS.1 zz
    clear X11 zz
    go_wp2_with fail
    refine (show Calls Try.prog 9 #[.agg #[.slice px n kx], .int .i64 1] w11 fun e w' => e = .returned (.int .i64 (kst F 1 n : Int)) ∧ Kq (fun b => W4.heap.size ≤ b ∧ b < w5.heap.size) w11 w' ∧ OwnF w' (.slice px n kx) gx n (mkf F 1) tx W4.heap.size w5.heap.size from HMK).mono ?_
    rintro e w12 ⟨rfl, hq12, _⟩
    have b411 : Below W4.heap.size W4 w11 := below_to (below_to HK8.1 HK9) HB11
    have b412 : Below W4.heap.size W4 w12 := below_kq b411 hq12 (fun b hb => hb.1)
    have b811 : Below W8.heap.size W8 w11 := below_to HK9 HB11
    have z6 := HK6.2.2.2
    have z8 := HK8.2.2.2.2
    have l68 := HK8.2.1.size
    have l811 := b811.size
    have G12 : OwnF w12 (.slice pg n kg) gg n (fun i => bar (F i)) tg W6.heap.size w7.heap.size := (HK8.2.2.1.below b811).keep (fun b h1 h2 h3 => hq12.block b h3 (fun e => by omega))
    have c6 : w12.cell? ⟨w7.heap.size, 0, none⟩ = some (.slice pg n kg) := (World.cell?_of_block (hq12.block w7.heap.size (by omega) (fun e => by omega))).trans (cell_keep b811 HK8.2.2.2.1)
    have c4 : w12.cell? ⟨w3.heap.size, 0, none⟩ = some (.slice pw n kw) := cell_keep b412 HK4.2.2.2.2.1
    have z12 : w7.heap.size ≤ w12.heap.size := by have := hq12.size; omega
    have HK12 : Hid (Below W4.heap.size W4 w12 ∧ OwnF w12 (.slice pg n kg) gg n (fun i => bar (F i)) tg W6.heap.size w7.heap.size ∧ w12.cell? ⟨w7.heap.size, 0, none⟩ = some (.slice pg n kg) ∧ W4.heap.size ≤ W6.heap.size ∧ W6.heap.size ≤ w7.heap.size ∧ w7.heap.size ≤ w12.heap.size) := (⟨b412, G12, c6, HK6.1.size, by have q1 := G12.b0; have q2 := G12.bn; have q3 := G12.up 0 n (Nat.zero_le _) (Nat.le_refl _); omega, z12⟩ : _ ∧ _ ∧ _ ∧ _ ∧ _ ∧ _)
    clear hq12 b411 b412 b811 z6 z8 l68 l811 G12 z12 HMK HK9 HB11 HK8 HK6 c5
    obtain ⟨kk, hkk⟩ : ∃ kk, kk = kst F 1 n := ⟨_, rfl⟩
    rw [← hkk]
    clear hkk
    have hkn : ¬ ((kk : Int) < 0) := by omega
    go_wp2_with fail
    refine (eq_sheet w12 HK12.2.1.row (HK4.2.2.1.below HK12.1) HS.2).mono ?_
    rintro e w13 ⟨rfl, hb13⟩
    have c6' := cell_keep hb13 c6
    have HMK : Hid (Calls Try.prog 9 #[.agg #[.slice pg n kg], .int .i64 1] w13 fun e w' => e = .returned (.int .i64 (kst (fun i => bar (F i)) 1 n : Int)) ∧ Kq (fun b => W6.heap.size ≤ b ∧ b < w7.heap.size) w13 w' ∧ OwnF w' (.slice pg n kg) gg n (mkf (fun i => bar (F i)) 1) tg W6.heap.size w7.heap.size) := mark_sheet w13 (HK12.2.1.below hb13) HS.2 (by have := hb13.size; have := HK12.2.2.2.2.2; omega)
    have HK13 : Hid (Below w12.heap.size w12 w13) := hb13
    clear hb13 c6 c4
    go_wp2_with fail
    refine (show Calls Try.prog 9 #[.agg #[.slice pg n kg], .int .i64 1] w13 fun e w' => e = .returned (.int .i64 (kst (fun i => bar (F i)) 1 n : Int)) ∧ Kq (fun b => W6.heap.size ≤ b ∧ b < w7.heap.size) w13 w' ∧ OwnF w' (.slice pg n kg) gg n (mkf (fun i => bar (F i)) 1) tg W6.heap.size w7.heap.size from HMK).mono ?_
    rintro e w14 ⟨rfl, hq14, og14⟩
    have b413 : Below W4.heap.size W4 w13 := below_to HK12.1 HK13
    have b414 : Below W4.heap.size W4 w14 := below_kq b413 hq14 (fun b hb => by have := HK12.2.2.2.1; omega)
    have l13 := (show Below w12.heap.size w12 w13 from HK13).size
    have c6 : w14.cell? ⟨w7.heap.size, 0, none⟩ = some (.slice pg n kg) := (World.cell?_of_block (hq14.block w7.heap.size (lt_of_cell c6') (fun e => by omega))).trans c6'
    have HK14 : Hid (Below W4.heap.size W4 w14 ∧ OwnF w14 (.slice pg n kg) gg n (mkf (fun i => bar (F i)) 1) tg W6.heap.size w7.heap.size ∧ w14.cell? ⟨w7.heap.size, 0, none⟩ = some (.slice pg n kg)) := (⟨b414, og14, c6⟩ : _ ∧ _ ∧ _)
    clear hq14 og14 b413 b414 l13 HMK HK13 HK12 c6'
    have HHE : Hid (∀ W, Below w14.heap.size w14 W → Calls Try.prog 10 #[.agg #[.slice pg n kg], .int .i64 1] W fun e w' => e = .returned (.int .i64 (kst (fun i => bar (F i)) 1 n : Int)) ∧ Below W.heap.size W w') := (fun W hb => held_sheet W (HK14.2.1.below hb) HS.2 : ∀ W, _)
    obtain ⟨mm, hmm⟩ : ∃ mm, mm = kst (fun i => bar (F i)) 1 n := ⟨_, rfl⟩
    rw [← hmm]
    rw [← hmm] at HHE
    clear hmm
    have hmn : ¬ ((mm : Int) < 0) := by omega
    go_wp2_with fail
    refine ((show ∀ W, Below w14.heap.size w14 W → _ from HHE) w14 (Below.refl _ _)).mono ?_
    rintro e w15 ⟨rfl, hb15⟩
    have b415 : Below W4.heap.size W4 w15 := below_to HK14.1 hb15
    have c0 : w15.cell? ⟨w.heap.size, 0, none⟩ = some (.slice pa n ca) := cell_keep b415 HK4.2.2.2.1
    have HK15 : Hid (Below W4.heap.size W4 w15 ∧ Below w14.heap.size w14 w15) := (⟨b415, hb15⟩ : _ ∧ _)
    clear hb15 b415 c6
    go_wp2_with fail
    refine (to_sheet w15 (HK4.2.1.below HK15.1) HS.1).mono ?_
    rintro e w16 ⟨vy, gy, ty, rfl, oy, hb16⟩
    obtain ⟨py, ky, rfl, _⟩ := oy.sl
    have HK16 : Hid (Below w15.heap.size w15 w16 ∧ RowF w16 (.slice py n ky) n F) := (⟨hb16, oy.row⟩ : _ ∧ _)
    clear hb16 oy c0
    go_wp2_with fail
    refine (impl_bare w16 HK16.2 HS.1 HF2).mono ?_
    rintro e w17 ⟨vh, gh, th, rfl, oh, hb17⟩
    obtain ⟨ph, kh, rfl, _⟩ := oh.sl
    have b1517 : Below w15.heap.size w15 w17 := below_to HK16.1 hb17
    have b1417 : Below w14.heap.size w14 w17 := below_to HK15.2 b1517
    have b417 : Below W4.heap.size W4 w17 := below_to HK15.1 b1517
    obtain ⟨W18, hW18⟩ : ∃ W18, W18 = w17.alloc (.cells #[.slice ph n kh] 28) := ⟨_, rfl⟩
    have b1718 : Below w17.heap.size w17 W18 := by rw [hW18]; exact bel1 _ _
    have HK18 : Hid (Below W4.heap.size W4 W18 ∧ Below w14.heap.size w14 W18 ∧ RowF W18 (.slice ph n kh) n (fun i => bar (F i))) := (⟨below_to b417 b1718, below_to b1417 b1718, (oh.below b1718).row⟩ : _ ∧ _ ∧ _)
    have c4a : ∀ o : Obj, (w17.alloc o).cell? ⟨w3.heap.size, 0, none⟩ = some (.slice pw n kw) := fun o => cell_keep (below_al b417 o) HK4.2.2.2.2.1
    clear hb17 oh b1517 b1417 b417 b1718
    go_wp2_with fail
    rw [← hW18]
    refine (eq_sheet W18 HK18.2.2 (HK4.2.2.1.below HK18.1) HS.2).mono ?_
    rintro e w19 ⟨rfl, hb19⟩
    have b1419 : Below w14.heap.size w14 w19 := below_to HK18.2.1 hb19
    have c6 : w19.cell? ⟨w7.heap.size, 0, none⟩ = some (.slice pg n kg) := cell_keep b1419 HK14.2.2
    have HK19 : Hid (Below W4.heap.size W4 w19 ∧ Below w14.heap.size w14 w19) := (⟨below_to HK18.1 hb19, b1419⟩ : _ ∧ _)
    clear hb19 b1419 c4a hW18
    go_wp2_with fail
    refine ((show ∀ W, Below w14.heap.size w14 W → _ from HHE) w19 HK19.2).mono ?_
    rintro e w20 ⟨rfl, hb20⟩
    have HF : Hid (Below w.heap.size w w20) := HK4.1.trans ((below_to HK19.1 hb20).mono HK4.1.size)
    clear hb20 c6
    go_wp2_with fail
    go_ret
    exact ⟨rfl, HF⟩
end Go.Proofs.Ytgpbmmhfhjobkaa
