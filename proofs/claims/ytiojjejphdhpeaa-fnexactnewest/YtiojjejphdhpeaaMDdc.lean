import Derived.Test.YtiojjejphdhpeaaMDdb
namespace Go.Proofs.Ytiojjejphdhpeaa.Fo
open Go.ChangeShapes Go.WideShapes Go.ChangeAt Go.RowKit
set_option linter.unusedVariables false
set_option maxRecDepth 100000
set_option linter.unusedSimpArgs false
theorem Dr.ext {w0 : World} {dv : Nat} {P P' : Nat → Nat → Int} {m : Nat} {Q Q' : Nat → Ed} {vw : Value} {W : World} (h : Dr w0 dv P m Q vw W) (hP : ∀ i, i < 258 → P i = P' i) (hQ : ∀ j, j < m → (Q j).b = (Q' j).b ∧ ∀ t, t < 64 → (Q j).A t = (Q' j).A t) : Dr w0 dv P' m Q' vw W := by
  refine ⟨h.kb, h.ge, h.lt, h.bl, pgs_range.2 (fun i hi j hj => by rw [← hP i hi]; exact pgs_range.1 h.rg i hi j hj), h.wt, ?_⟩
  have e : ∀ n, n ≤ m → pcl Q n = pcl Q' n := by
    intro n
    induction n with
    | zero => intro _; rfl
    | succ n ih =>
      intro hn
      rw [pcl, pcl, ih (by omega), (hQ n (by omega)).1, pgl_ext (hQ n (by omega)).2]
  rw [← e m (Nat.le_refl _)]
  exact h.ro
/-- the first i pages of a disk's -/
def fpg (B : Nat → Ed) (i : Nat) : Nat → Nat → Int := fun k => if k < i then (B k).A else fun _ => 0
theorem fpg_up (B : Nat → Ed) (i : Nat) : pup (fpg B i) i (B i).A = fpg B (i + 1) := by
  funext k
  unfold pup fpg
  by_cases e : k = i
  · subst e
    rw [if_pos rfl, if_pos (by omega)]
  · rw [if_neg e]
    by_cases h : k < i
    · rw [if_pos h, if_pos (by omega)]
    · rw [if_neg h, if_neg (by omega)]
set_option maxHeartbeats 16000000 in
theorem im_drive_no {v1 v2 : Value} {D : Dd} (w : World) (ha : RowD 0 w v1 v2 D) (hd : BdD D) (hno : ¬ Dok D) :
    Calls Try.prog 81 #[.agg #[v1, v2]] w fun e w' => e = .returned (.pointer none) ∧ Kb 0 w w' := by
  obtain ⟨⟨p1, c1, rfl, -⟩, ⟨p2, c2, rfl, -⟩⟩ := id ha
  obtain ⟨w1, hw1⟩ : ∃ w1, w1 = w.alloc (.cells #[.slice p1 D.n c1, .slice p2 D.m c2] 30) := ⟨_, rfl⟩
  have k1 : Kb 0 w w1 := by rw [hw1]; exact kb_alloc _ _ _
  have b1 : w1.heap[w.heap.size]? = some (.cells #[.slice p1 D.n c1, .slice p2 D.m c2] 30 (0, 0)) := by rw [hw1]; exact alloc_new _ _ _
  have HI := im_dok w1 (ha.keep k1) hd
  rw [dc_f hno] at HI
  have u0 : w1.cell? ⟨w.heap.size, 0, none⟩ = some (.slice p1 D.n c1) := cell_of b1 rfl
  have u1 : w1.cell? ⟨w.heap.size, 1, none⟩ = some (.slice p2 D.m c2) := cell_of b1 rfl
  have HK : Hid (Kb 0 w w1) := k1
  have HW1 : Hid (w1 = w.alloc (.cells #[.slice p1 D.n c1, .slice p2 D.m c2] 30)) := hw1
  clear hw1 k1 b1 ha hd hno
  go_enter Try.func81, Try.ntmps81
  go_upto_region 1 with fail
  rw [← (show w1 = _ from HW1)]
  clear HW1
  go_wp2_with fail
  refine HI.mono ?_
  rintro e w2 ⟨rfl, k2⟩
  have HF : Hid (Kb 0 w w2) := (show Kb 0 w w1 from HK).trans k2
  clear HI u0 u1 HK k2
  go_wp2_with fail
  go_ret
  exact ⟨rfl, HF⟩
set_option maxHeartbeats 16000000 in
theorem im_drive_yes {v1 v2 : Value} {m : Nat} {B Q : Nat → Ed} (w : World) (ha : RowD 0 w v1 v2 ⟨258, B, m, Q⟩) (hd : BdD ⟨258, B, m, Q⟩) (hok : Dok ⟨258, B, m, Q⟩) :
    Calls Try.prog 81 #[.agg #[v1, v2]] w fun e w' => ∃ dv vw, e = .returned (.pointer (some ⟨dv, 0, none⟩)) ∧ Dr w dv (fun i => (B i).A) m Q vw w' := by
  have hmm : m ≤ 200 := hok.2.1
  have hB64 : ∀ i, i < 258 → (B i).c = 64 := hok.2.2.1
  have hQ64 : ∀ i, i < m → Wok (Q i).b (Q i).c := hok.2.2.2
  obtain ⟨⟨p1, c1, rfl, ha1⟩, ⟨p2, c2, rfl, ha2⟩⟩ := id ha
  dsimp only at ha1 ha2
  obtain ⟨w1, hw1⟩ : ∃ w1, w1 = w.alloc (.cells #[.slice p1 258 c1, .slice p2 m c2] 30) := ⟨_, rfl⟩
  have k1 : Kb 0 w w1 := by rw [hw1]; exact kb_alloc _ _ _
  have b1 : w1.heap[w.heap.size]? = some (.cells #[.slice p1 258 c1, .slice p2 m c2] 30 (0, 0)) := by rw [hw1]; exact alloc_new _ _ _
  have z1 : w.heap.size < w1.heap.size := by rw [hw1, World.size_alloc]; omega
  have HI : Calls Try.prog 66 #[.agg #[.slice p1 258 c1, .slice p2 m c2]] w1 fun e w' => e = .returned (.bool true) ∧ Kb 0 w1 w' := by
    have := im_dok w1 (ha.keep k1) hd
    rw [dc_t hok] at this
    exact this
  have u0 : w1.cell? ⟨w.heap.size, 0, none⟩ = some (.slice p1 258 c1) := cell_of b1 rfl
  have u1 : w1.cell? ⟨w.heap.size, 1, none⟩ = some (.slice p2 m c2) := cell_of b1 rfl
  have HB : Hid (Kb 0 w w1 ∧ w1.heap[w.heap.size]? = some (.cells #[.slice p1 258 c1, .slice p2 m c2] 30 (0, 0)) ∧ w.heap.size < w1.heap.size) := (⟨k1, b1, z1⟩ : _ ∧ _)
  have HA1 : Hid ((∃ a : Addr, p1 = some a ∧ 258 ≤ c1 ∧ ∀ i, i < 258 → ElC 1 0 w (a.add (i * 1)) (B i)) ∧ ∀ i, i < 258 → (B i).c = 64) := (⟨by obtain ⟨a, e1, e2, _, e3⟩ := ha1 (by omega); exact ⟨a, e1, e2, e3⟩, hB64⟩ : _ ∧ _)
  have HA2 : Hid ((0 < m → ∃ a : Addr, p2 = some a ∧ m ≤ c2 ∧ 0 ≤ a.block ∧ ∀ i, i < m → ElC 2 0 w (a.add (i * 2)) (Q i)) ∧ ∀ i, i < m → Wok (Q i).b (Q i).c) := (⟨ha2, hQ64⟩ : _ ∧ _)
  have HW1 : Hid (w1 = w.alloc (.cells #[.slice p1 258 c1, .slice p2 m c2] 30)) := hw1
  clear hw1 k1 b1 z1 ha hd hok hB64 hQ64 ha1 ha2
  go_enter Try.func81, Try.ntmps81
  go_upto_region 1 with fail
  rw [← (show w1 = _ from HW1)]
  clear HW1
  go_wp2_with fail
  refine HI.mono ?_
  rintro e w2 ⟨rfl, k2⟩
  clear HI u0 u1
  obtain ⟨k1, b1, z1⟩ := (show _ ∧ _ ∧ _ from HB)
  obtain ⟨ZD, hZD⟩ : ∃ ZD, ZD = (List.replicate 16512 (Value.int .u8 0) ++ [Value.slice none 0 0]).toArray := ⟨_, rfl⟩
  obtain ⟨w3, hw3⟩ : ∃ w3, w3 = w2.alloc (.cells ZD 124) := ⟨_, rfl⟩
  obtain ⟨dv, hdv⟩ : ∃ dv, dv = w2.heap.size := ⟨_, rfl⟩
  have D0 : Dr w2 dv (fun _ _ => 0) 0 Q (.slice none 0 0) w3 := by rw [hdv]; exact Dr.new hZD hw3 Q
  have HX : Hid (∀ (o : Oper) (a : Act), o.op = .alloc 124 → (execOp a.eval o).run Try.prog w2 = .ok (.value (.pointer (some ⟨dv, 0, none⟩))) w3) := (fun o a ho => by rw [hw3, hdv]; exact exec_drv ho hZD : ∀ (o : Oper) (a : Act), _)
  have HD0 : Hid (Dr w2 dv (fpg B 0) 0 Q (.slice none 0 0) w3) := (D0.ext (fun i _ => by unfold fpg; rw [if_neg (by omega)]) (fun j hj => by omega) : Dr w2 dv (fpg B 0) 0 Q (.slice none 0 0) w3)
  have b2 := (k2.block _ (Nat.zero_le _) z1).trans b1
  have z2 : w.heap.size < w2.heap.size := by have := k2.size; omega
  have HB2 : Hid (Kb 0 w w2 ∧ w2.heap[w.heap.size]? = some (.cells #[.slice p1 258 c1, .slice p2 m c2] 30 (0, 0)) ∧ w.heap.size < w2.heap.size) := (⟨k1.trans k2, b2, z2⟩ : _ ∧ _)
  have k3 : Kb 0 w2 w3 := by rw [hw3]; exact kb_alloc _ _ _
  have b3 := (k3.block _ (Nat.zero_le _) z2).trans b2
  have u0 : w3.cell? ⟨w.heap.size, 0, none⟩ = some (.slice p1 258 c1) := cell_of b3 rfl
  clear k1 b1 z1 hZD hw3 hdv D0 b2 z2 k3 b3 k2 HB
  go_wp2_with (refine Go.Great.wpList_runTo (by rfl) (some 11) (by rfl) (.pointer (some ⟨dv, 0, none⟩)) w3 ((show ∀ (o : Oper) (a : Act), _ from HX) _ _ (by rfl)) ?_)
  clear HX u0
  go_loopw [15] (fun s15 wr => ∃ i : Nat, s15 = .int .i64 (i : Int) ∧ i ≤ 258 ∧ Hid (Dr w2 dv (fpg B i) 0 Q (.slice none 0 0) wr)) (fun s15 _ => 258 - (intOf s15).toNat)
  case atStart => exact ⟨0, rfl, Nat.zero_le _, HD0⟩
  case round =>
    clear HD0
    obtain ⟨i, rfl, hil, HX⟩ := hrel
    have hX := (show Dr w2 dv (fpg B i) 0 Q (.slice none 0 0) wr from HX)
    clear HX
    obtain ⟨kw2, b2, z2⟩ := (show _ ∧ _ ∧ _ from HB2)
    by_cases hi : i < 258
    case neg =>
      obtain rfl : i = 258 := by omega
      rw [show ((258 : Nat) : Int) = (258 : Int) from rfl]
      have bw := (hX.kb.block _ (Nat.zero_le _) z2).trans b2
      have u1 : wr.cell? ⟨w.heap.size, 1, none⟩ = some (.slice p2 m c2) := cell_of bw rfl
      have HD1 : Hid (∃ vw, Dr w2 dv (fun i => (B i).A) 0 Q vw wr) := (⟨_, hX.ext (fun k hk => by unfold fpg; rw [if_pos hk]) (fun j hj => by omega)⟩ : ∃ vw, Dr w2 dv (fun i => (B i).A) 0 Q vw wr)
      clear hX bw b2 z2 kw2 HA1 hil hi
      go_wp2_with fail
      clear u1
      go_loopw [31] (fun s31 wq => ∃ j : Nat, s31 = .int .i64 (j : Int) ∧ j ≤ m ∧ Hid (∃ vw, Dr w2 dv (fun i => (B i).A) j Q vw wq)) (fun s31 _ => m - (intOf s31).toNat)
      case atStart => exact ⟨0, rfl, Nat.zero_le _, HD1⟩
      case round =>
        clear HD1
        obtain ⟨j, rfl, hjl, HY⟩ := hrel
        obtain ⟨vw, hY⟩ := (show ∃ vw, Dr w2 dv (fun i => (B i).A) j Q vw wr from HY)
        clear HY
        obtain ⟨kw2, b2, z2⟩ := (show _ ∧ _ ∧ _ from HB2)
        by_cases hj : j < m
        case neg =>
          obtain rfl : j = m := by omega
          have HE : Hid (Dr w dv (fun i => (B i).A) j Q vw wr) := hY.low kw2
          clear hY kw2 b2 z2 HA2 HB2
          go_wp2_with fail
          go_ret
          exact ⟨_, _, rfl, HE⟩
        obtain ⟨h2, hq⟩ := (show _ ∧ _ from HA2)
        obtain ⟨a, rfl, hca, _, hra⟩ := h2 (by omega)
        have kwr := kw2.trans hY.kb
        obtain ⟨vc, x0, xt, hvc⟩ := (hra j hj).keep (.inr (.inl rfl)) (Nat.zero_le _) kwr
        obtain ⟨ob1, ob2, ob3⟩ := hq j hj
        rw [ob3] at hvc
        obtain ⟨q0, r0, rfl, -⟩ := id hvc
        have d0 : wr.cell? (a.add (j * 2)) = some (.int .i64 (Q j).b) := x0
        have d1 : wr.cell? ⟨(a.add (j * 2)).block, (a.add (j * 2)).off + 1, none⟩ = some (.slice q0 64 r0) := xt 1 (by omega) (by omega)
        have hjI : (j : Int) < (m : Int) := by omega
        obtain ⟨fb, hfbe⟩ : ∃ fb, fb = (Q j).b := ⟨_, rfl⟩
        have HPU : Hid (∀ W, Kb 0 wr W → Calls Try.prog 84 #[.pointer (some ⟨dv, 0, none⟩), .int .i64 fb, .slice q0 64 r0] W fun e w' => e = .returned (.bool true) ∧ ∃ vw', Dr w2 dv (fun i => (B i).A) (j + 1) Q vw' w') := (fun W k => by
          rw [hfbe]
          refine (im_put_yes (A := (Q j).A) (Q j).b W (hY.keep k) (hvc.keep k).row ⟨ob1, ob2⟩ (by omega)).mono ?_
          rintro e w' ⟨rfl, vw', hD⟩
          refine ⟨rfl, vw', hD.ext (fun _ _ => rfl) (fun t ht => ?_)⟩
          by_cases e : t = j
          · rw [if_pos e, e]
            exact ⟨rfl, fun _ _ => rfl⟩
          · rw [if_neg e]
            exact ⟨rfl, fun _ _ => rfl⟩ : ∀ W, _)
        rw [← hfbe] at d0
        clear hY kw2 b2 z2 h2 hq hra kwr x0 xt hvc ob1 ob2 ob3 hfbe HA2 HB2
        go_upto_region 12 with fail
        generalize hw6 : World.alloc wr _ = w6
        have k6 : Kb 0 wr w6 := by rw [← hw6]; exact kb_alloc _ _ _
        have b6 : w6.heap[wr.heap.size]? = some (.cells #[.int .i64 fb, .slice q0 64 r0] 71 (0, 0)) := by rw [← hw6]; exact alloc_new _ _ _
        have y0 : w6.cell? ⟨wr.heap.size, 0, none⟩ = some (.int .i64 fb) := cell_of b6 rfl
        have y1 : w6.cell? ⟨wr.heap.size, 1, none⟩ = some (.slice q0 64 r0) := cell_of b6 rfl
        have HP6 := (show ∀ W, Kb 0 wr W → _ from HPU) w6 k6
        clear hw6 b6 d0 d1 k6 HPU
        go_wp2_with fail
        refine HP6.mono ?_
        rintro e w7 ⟨rfl, HD7⟩
        have HD : Hid (∃ vw, Dr w2 dv (fun i => (B i).A) (j + 1) Q vw w7) := HD7
        clear HP6 HD7 y0 y1
        go_wp2_with fail
        go_roundw
        case rel => exact ⟨j + 1, by go_num, by omega, HD⟩
        case measure => simp [intOf]; omega
    have hI : (i : Int) < 258 := by omega
    obtain ⟨⟨a, rfl, hca, hra⟩, h64⟩ := (show _ ∧ _ from HA1)
    have kwr := kw2.trans hX.kb
    obtain ⟨vc, x0, xt, hvc⟩ := (hra i hi).keep (.inl rfl) (Nat.zero_le _) kwr
    rw [h64 i hi] at hvc
    obtain ⟨q0, r0, rfl, -⟩ := id hvc
    have d0 : wr.cell? (a.add i) = some (.slice q0 64 r0) := by have := x0; rw [Nat.mul_one] at this; exact this
    obtain ⟨PG, hPG⟩ : ∃ PG, PG = pgl (B i).A := ⟨_, rfl⟩
    have HPO : Hid (∀ W, Kb 0 wr W → Calls Try.prog 69 #[.slice q0 64 r0] W fun e w' => e = .returned (.agg PG.toArray) ∧ Kb 0 W w') := (fun W k => by
      have e : pgl (pad 64 (B i).A) = pgl (B i).A := pgl_ext (fun j hj => by unfold pad; rw [if_pos hj])
      rw [hPG, ← e]
      exact im_pageof W (hvc.keep k).row (Nat.le_refl _) : ∀ W, _)
    have HPG : Hid (∀ W, Kb 0 wr W → W.there dv (i * 64) PG.toArray.size ∧ Dr w2 dv (fpg B (i + 1)) 0 Q (.slice none 0 0) (W.setCells dv (i * 64) PG.toArray.toList)) := (fun W k => by
      have hD := (hX.keep k).page hi (B i).A _ rfl
      rw [fpg_up] at hD
      rw [hPG]
      refine ⟨?_, hD⟩
      have := (hX.keep k).there hi
      rw [List.size_toArray, pgl_len]
      exact this : ∀ W, _)
    have HPC : Hid ((Try.prog.info? 92).map (·.size) = some PG.toArray.size ∧ PG.toArray.all (·.oneCell') = true) := (⟨by rw [List.size_toArray, hPG, pgl_len]; exact infoP, by rw [hPG]; exact all_oneCell_toArray (pgl_one _)⟩ : _ ∧ _)
    clear hX kw2 b2 z2 hra h64 kwr x0 xt hvc hPG
    go_upto_region 7 with fail
    refine AnyL.region (S := fun _ => True) (z := 100) (by kernel_rfl) ?_
    have HKD : Hid (Kb 0 wr wr.drew) := (Kb.drewN (Kb.refl _ _) 1 : Kb 0 wr wr.drew)
    have hS0 : (fun _ : World => True) wr.drew := trivial
    obtain ⟨W0, hW0⟩ : ∃ W0, W0 = wr.drew := ⟨_, rfl⟩
    rw [← hW0] at HKD ⊢
    rw [← hW0] at hS0
    clear hW0 d0
    refine AnyL.takeAt 0 (.pointer (some ⟨dv, 0, none⟩)) rfl (by kernel_rfl) (by kernel_rfl) (by kernel_rfl) (by kernel_rfl) (fun _ _ _ h => h) rfl hS0 (by intro W hW; go_simp) ?_
    try simp only [Act.put, List.setIfInBounds_toArray, List.set_cons_zero, List.set_cons_succ]
    refine AnyL.takeAt 1 (.int .i64 (i : Int)) rfl (by kernel_rfl) (by kernel_rfl) (by kernel_rfl) (by kernel_rfl) (fun _ _ _ h => h) rfl hS0 (by intro W hW; go_simp) ?_
    try simp only [Act.put, List.setIfInBounds_toArray, List.set_cons_zero, List.set_cons_succ]
    refine AnyL.takeAt 2 (.slice q0 64 r0) rfl (by kernel_rfl) (by kernel_rfl) (by kernel_rfl) (by kernel_rfl) (fun _ _ _ h => h) rfl hS0 (by intro W hW; go_simp) ?_
    try simp only [Act.put, List.setIfInBounds_toArray, List.set_cons_zero, List.set_cons_succ]
    refine AnyL.takeAt 4 (.pointer (some ⟨dv, 0, none⟩)) rfl (by kernel_rfl) (by kernel_rfl) (by kernel_rfl) (by kernel_rfl) (fun _ _ _ h => h) rfl hS0 (by intro W hW; go_simp) ?_
    try simp only [Act.put, List.setIfInBounds_toArray, List.set_cons_zero, List.set_cons_succ]
    refine AnyL.takeAt 5 (.pointer (some ⟨dv, 0, none⟩)) rfl (by kernel_rfl) (by kernel_rfl) (by kernel_rfl) (by kernel_rfl) (fun _ _ _ h => h) rfl hS0 (by intro W hW; go_simp) ?_
    try simp only [Act.put, List.setIfInBounds_toArray, List.set_cons_zero, List.set_cons_succ]
    refine AnyL.oneAt 3 rfl (by kernel_rfl) rfl ?_
    intro K hK
    go_simp
    refine ((show ∀ W, Kb 0 wr W → _ from HPO) W0 HKD).mono ?_
    rintro e W6 ⟨rfl, k6⟩
    obtain ⟨t6, HD6⟩ := (show ∀ W, Kb 0 wr W → _ from HPG) W6 ((show Kb 0 wr W0 from HKD).trans k6)
    clear HPO HPG k6 HKD
    refine hK.out _ _ (fun _ => trivial) ?_
    clear hK K
    try simp only [Act.put, List.setIfInBounds_toArray, List.set_cons_zero, List.set_cons_succ]
    refine AnyL.oneAt 6 rfl (by kernel_rfl) rfl ?_
    intro K hK
    go_simp
    refine hK.out _ _ (fun _ => trivial) ?_
    clear hK K
    try simp only [Act.put, List.setIfInBounds_toArray, List.set_cons_zero, List.set_cons_succ]
    refine AnyL.oneAt 7 rfl (by kernel_rfl) rfl ?_
    intro K hK
    refine wp_store_mid 92 (.tmp 26) (.tmp 23) rfl dv (i * 64) PG.toArray (by first | rfl | simp [Act.eval, Addr.add]) rfl t6 (show _ ∧ _ from HPC).1 (show _ ∧ _ from HPC).2 ?_
    refine hK.out _ _ (fun _ => trivial) ?_
    clear hK K t6
    try simp only [Act.put, List.setIfInBounds_toArray, List.set_cons_zero, List.set_cons_succ]
    refine AnyL.done (by kernel_rfl) ?_
    have HD : Hid (Dr w2 dv (fpg B (i + 1)) 0 Q (.slice none 0 0) _) := HD6
    clear HD6
    go_wp2_with fail
    go_roundw
    case rel => exact ⟨i + 1, by go_num, by omega, HD⟩
    case measure => simp [intOf]; omega
end Go.Proofs.Ytiojjejphdhpeaa.Fo
