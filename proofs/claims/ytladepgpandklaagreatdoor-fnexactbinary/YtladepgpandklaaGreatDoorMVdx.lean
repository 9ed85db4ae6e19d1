import Derived.Test.YtladepgpandklaaGreatDoorMVdw
namespace Go.Proofs.YtladepgpandklaaGreatDoor
open Go.ChangeShapes Go.WideShapes Go.ChangeAt Go.RowKit
set_option linter.unusedVariables false
set_option maxRecDepth 100000
set_option maxRecDepth 100000 in
set_option maxHeartbeats 20000000 in
theorem law_binary (op : Int) (a b : Vv) (ba : Vb a) (bb : Vb b) (w : World) (hT : Tb w) : Calls Tryz.prog 3 #[.int .i64 op, vv a, vv b] w fun e w' => e = .returned (.bool true) ∧ Kq w w' := by
  have HS := fun w => sz_val a 1048576 (by omega) ba.x w
  by_cases hs : (a.x.size : Int) ≤ 1048576
  case neg =>
    rw [if_neg hs] at HS
    obtain ⟨k, m, g, x, r⟩ := a
    obtain ⟨l, n, h, y, s⟩ := b
    unfold vv at HS ⊢
    dsimp only at HS hs ⊢
    clear ba bb
    go_enter Tryz.func3, Tryz.ntmps3
    go_wp2_with fail
    refine (HS _).mono ?_
    rintro e w1 ⟨rfl, g1⟩
    have G1 : Hid (Grown w w1) := Grown.trans (by go_grown) g1
    clear g1 HS
    go_wp2_with fail
    go_ret
    exact ⟨rfl, .of_grown G1⟩
  rw [if_pos hs] at HS
  have HS2 := fun w => sz_val b (1048576 - (a.x.size : Int)) (by omega) bb.x w
  have hsa : ¬ 1048576 - (a.x.size : Int) < 0 := by omega
  by_cases ht : (b.x.size : Int) ≤ 1048576 - (a.x.size : Int)
  case neg =>
    rw [if_neg ht] at HS2
    obtain ⟨k, m, g, x, r⟩ := a
    obtain ⟨l, n, h, y, s⟩ := b
    unfold vv at HS HS2 ⊢
    dsimp only at HS HS2 hs hsa ht ⊢
    clear ba bb hs ht
    go_enter Tryz.func3, Tryz.ntmps3
    go_wp2_with fail
    refine (HS _).mono ?_
    rintro e w1 ⟨rfl, g1⟩
    have G1 : Hid (Grown w w1) := Grown.trans (by go_grown) g1
    have B1 : Vc w1 (w.heap.size + 1) ⟨l, n, h, y, s⟩ := by
      have q := Vc.new (w.alloc (.cells #[.int .i64 k, .int .i64 m, .float .f64 g, .string x, .int .i64 r] 24)) l n h y s 24
      rw [World.size_alloc] at q
      exact q.grown g1
    obtain ⟨d0, d1, d2, d3, d4⟩ := B1
    clear g1 HS
    go_wp2_with fail
    refine (HS2 _).mono ?_
    rintro e w2 ⟨rfl, g2⟩
    have G2 : Hid (Grown w w2) := Grown.trans G1 g2
    clear g2 HS2 G1 d0 d1 d2 d3 d4
    go_wp2_with fail
    go_ret
    exact ⟨rfl, .of_grown G2⟩
  rw [if_pos ht] at HS2
  obtain ⟨A, HO, HI⟩ := bin_both op a b ba bb hs (by omega)
  have HTA := fun w => to_val a w
  have HTB := fun w => to_val b w
  have hsb : ¬ 1048576 - (a.x.size : Int) - (b.x.size : Int) < 0 := by omega
  have HEQ := @An.eq A
  obtain ⟨k, m, g, x, r⟩ := a
  obtain ⟨l, n, h, y, s⟩ := b
  unfold vv at HS HS2 HO HI HTA HTB ⊢
  unfold va at HO HI HEQ
  dsimp only at HS HS2 HO HI HTA HTB hs ht hsa hsb ⊢
  clear ba bb hs ht
  have HS' : Hid (∀ w, _) := HS
  have HS2' : Hid (∀ w, _) := HS2
  have HO' : Hid (∀ w, _) := HO
  have HI' : Hid (∀ w, Tb w → _) := HI
  have HTA' : Hid (∀ w, _) := HTA
  have HTB' : Hid (∀ w, _) := HTB
  have HEQ' : Hid (∀ (c c' : Int) (u u' : Vv), A.is c u → A.is c' u' → ∀ w, _) := fun c c' u u' h h' w => HEQ h h' w
  have HT0 : Hid (Tb w) := hT
  clear HS HS2 HO HI HTA HTB hT HEQ
  have hst : ∀ (a : Addr) (n : Nat) (m : Mode) (w : World), (store a (.float .f64 n) m).run Tryz.prog w = stored Tryz.prog w a (.float .f64 n) m := fun a n m w => run_store _ _ _ _ _ rfl
  go_enter Tryz.func3, Tryz.ntmps3
  go_wp2_with fail
  refine (HS' _).mono ?_
  rintro e w1 ⟨rfl, g1⟩
  have G1 : Hid (Grown w w1) := Grown.trans (by go_grown) g1
  have A1 : Hid (Vc w1 w.heap.size ⟨k, m, g, x, r⟩) := Vc.grown ((Vc.new w k m g x r 24).grown (Grown.alloc (Grown.refl _) _ _)) g1
  have B1 : Hid (Vc w1 (w.heap.size + 1) ⟨l, n, h, y, s⟩) := by
    have q := Vc.new (w.alloc (.cells #[.int .i64 k, .int .i64 m, .float .f64 g, .string x, .int .i64 r] 24)) l n h y s 24
    rw [World.size_alloc] at q
    exact q.grown g1
  obtain ⟨d0, d1, d2, d3, d4⟩ := (show Vc w1 (w.heap.size + 1) ⟨l, n, h, y, s⟩ from B1)
  clear g1 HS'
  go_wp2_with fail
  refine (HS2' _).mono ?_
  rintro e w2 ⟨rfl, g2⟩
  have K2 : Hid (Kq w w2) := .of_grown (Grown.trans G1 g2)
  have VA0 : Hid (Vc w2 w.heap.size ⟨k, m, g, x, r⟩) := Vc.grown A1 g2
  have VB0 : Hid (Vc w2 (w.heap.size + 1) ⟨l, n, h, y, s⟩) := Vc.grown B1 g2
  clear A1 B1 g2 HS2' G1 d0 d1 d2 d3 d4
  obtain ⟨B, hB⟩ : ∃ B, B = w.heap.size := ⟨_, rfl⟩
  rw [← hB] at VA0 VB0 ⊢
  have ZB0 : Hid (B + 1 < w2.heap.size) := lt_of_cell (Vc.c0 VB0)
  have L0 : Hid (Lw w2 w2 B ⟨k, m, g, x, r⟩ ⟨l, n, h, y, s⟩) := ⟨Kq.refl _, VA0, VB0⟩
  have HT2 : Hid (Tb w2) := Tb.kq HT0 K2
  clear hB HT0
  go_wp2_with fail
  refine AnyL.region (S := (fun W' : World => Vc W' B ⟨k, m, g, x, r⟩ ∧ Vc W' (B + 1) ⟨l, n, h, y, s⟩)) (z := 7) (by kernel_rfl) ?_
  obtain ⟨V0, hVd⟩ : ∃ V, V = w2.drew := ⟨_, rfl⟩
  rw [← hVd]
  have LD : Hid (Lw w2 V0 B ⟨k, m, g, x, r⟩ ⟨l, n, h, y, s⟩) := by rw [hVd]; exact Lw.step L0 (Kq.drew (Kq.refl _))
  have hS0 : (fun W' : World => Vc W' B ⟨k, m, g, x, r⟩ ∧ Vc W' (B + 1) ⟨l, n, h, y, s⟩) V0 := ⟨(show Lw w2 V0 B ⟨k, m, g, x, r⟩ ⟨l, n, h, y, s⟩ from LD).a, (show Lw w2 V0 B ⟨k, m, g, x, r⟩ ⟨l, n, h, y, s⟩ from LD).b⟩
  clear hVd
  refine AnyL.takeAt 0 (.int .i64 op) rfl (by kernel_rfl) (by kernel_rfl) (by kernel_rfl) (by kernel_rfl) (fun _ _ _ h => h) rfl hS0 (by intro W hW; obtain ⟨⟨q0, q1, q2, q3, q4⟩, ⟨p0, p1, p2, p3, p4⟩⟩ := hW; go_simp) ?_
  try simp only [Act.put, List.setIfInBounds_toArray, List.set_cons_zero, List.set_cons_succ]
  refine AnyL.takeAt 1 (.agg #[.int .i64 k, .int .i64 m, .float .f64 g, .string x, .int .i64 r]) rfl (by kernel_rfl) (by kernel_rfl) (by kernel_rfl) (by kernel_rfl) (fun _ _ _ h => h) rfl hS0 (by intro W hW; obtain ⟨⟨q0, q1, q2, q3, q4⟩, ⟨p0, p1, p2, p3, p4⟩⟩ := hW; go_simp) ?_
  try simp only [Act.put, List.setIfInBounds_toArray, List.set_cons_zero, List.set_cons_succ]
  refine AnyL.takeAt 3 (.agg #[.int .i64 l, .int .i64 n, .float .f64 h, .string y, .int .i64 s]) rfl (by kernel_rfl) (by kernel_rfl) (by kernel_rfl) (by kernel_rfl) (fun _ _ _ h => h) rfl hS0 (by intro W hW; obtain ⟨⟨q0, q1, q2, q3, q4⟩, ⟨p0, p1, p2, p3, p4⟩⟩ := hW; go_simp) ?_
  try simp only [Act.put, List.setIfInBounds_toArray, List.set_cons_zero, List.set_cons_succ]
  clear hS0
  refine AnyL.two 2 6 rfl rfl (by kernel_rfl) rfl rfl ?_ ?_
  · intro K hK
    go_simp
    refine (HTA' _).mono ?_
    rintro e v1 ⟨rfl, gg⟩
    have gk : Kq _ v1 := .of_grown gg
    clear gg
    have L2 : Hid (Lw w2 v1 B ⟨k, m, g, x, r⟩ ⟨l, n, h, y, s⟩) := Lw.step LD gk
    clear gk LD
    refine hK.out _ _ (fun _ => ⟨(show Lw w2 v1 B ⟨k, m, g, x, r⟩ ⟨l, n, h, y, s⟩ from L2).a, (show Lw w2 v1 B ⟨k, m, g, x, r⟩ ⟨l, n, h, y, s⟩ from L2).b⟩) ?_
    clear hK K
    try simp only [Act.put, List.setIfInBounds_toArray, List.set_cons_zero, List.set_cons_succ]
    refine AnyL.two 4 6 rfl rfl (by kernel_rfl) rfl rfl ?_ ?_
    · intro K hK
      go_simp
      refine (HTB' _).mono ?_
      rintro e v5 ⟨rfl, gg⟩
      have gk : Kq _ v5 := .of_grown gg
      clear gg
      have L6 : Hid (Lw w2 v5 B ⟨k, m, g, x, r⟩ ⟨l, n, h, y, s⟩) := Lw.step L2 gk
      clear gk L2
      refine hK.out _ _ (fun _ => ⟨(show Lw w2 v5 B ⟨k, m, g, x, r⟩ ⟨l, n, h, y, s⟩ from L6).a, (show Lw w2 v5 B ⟨k, m, g, x, r⟩ ⟨l, n, h, y, s⟩ from L6).b⟩) ?_
      clear hK K
      try simp only [Act.put, List.setIfInBounds_toArray, List.set_cons_zero, List.set_cons_succ]
      refine AnyL.two 5 6 rfl rfl (by kernel_rfl) rfl rfl ?_ ?_
      · intro K hK
        go_simp
        refine (HO' _).mono ?_
        rintro e v9 ⟨⟨c0, ⟨uk0, um0, ug0, ux0, ur0⟩, rfl, hu⟩, gk⟩
        dsimp only
        have HU0 : Hid (A.is c0 ⟨uk0, um0, ug0, ux0, ur0⟩) := hu
        clear hu
        have L10 : Hid (Lw w2 v9 B ⟨k, m, g, x, r⟩ ⟨l, n, h, y, s⟩) := Lw.step L6 gk
        clear gk L6
        refine hK.out _ _ (fun _ => ⟨(show Lw w2 v9 B ⟨k, m, g, x, r⟩ ⟨l, n, h, y, s⟩ from L10).a, (show Lw w2 v9 B ⟨k, m, g, x, r⟩ ⟨l, n, h, y, s⟩ from L10).b⟩) ?_
        clear hK K
        try simp only [Act.put, List.setIfInBounds_toArray, List.set_cons_zero, List.set_cons_succ]
        refine AnyL.oneAt 6 rfl (by kernel_rfl) rfl ?_
        intro K hK
        go_simp
        obtain ⟨Z16, hZ⟩ : ∃ Z, Z = (v9 : World).heap.size := ⟨_, rfl⟩
        obtain ⟨v13, hW⟩ : ∃ Wn, Wn = (v9 : World).alloc (.cells #[.int .i64 0, .int .i64 0, .int .i64 0, .float .f64 0, .string ⟨#[]⟩, .int .i64 0] 28) := ⟨_, rfl⟩
        have L14 : Hid (Lw w2 v13 B ⟨k, m, g, x, r⟩ ⟨l, n, h, y, s⟩) := Lw.step L10 (by rw [hW]; exact .of_grown (Grown.alloc (Grown.refl _) _ _))
        have R15 : Hid (Rv v13 Z16) := by rw [hW, hZ]; exact Rv.new _ _
        have zZ16 : Hid (w2.heap.size ≤ Z16) := by rw [hZ]; exact (show Lw w2 v9 B ⟨k, m, g, x, r⟩ ⟨l, n, h, y, s⟩ from L10).kq.size
        rw [← hW, ← hZ]
        clear hW hZ L10
        refine hK.out _ _ (fun _ => ⟨(show Lw w2 v13 B ⟨k, m, g, x, r⟩ ⟨l, n, h, y, s⟩ from L14).a, (show Lw w2 v13 B ⟨k, m, g, x, r⟩ ⟨l, n, h, y, s⟩ from L14).b⟩) ?_
        clear hK K
        try simp only [Act.put, List.setIfInBounds_toArray, List.set_cons_zero, List.set_cons_succ]
        obtain ⟨r0, r1, r2, r3, r4, r5, rz⟩ := (show Rv v13 Z16 from R15)
        refine AnyL.oneAt 7 rfl (by kernel_rfl) rfl ?_
        intro K hK
        go_simp
        refine hK.out _ _ (fun h => absurd rfl h) ?_
        clear hK K
        try simp only [Act.put, List.setIfInBounds_toArray, List.set_cons_zero, List.set_cons_succ]
        refine AnyL.done (by kernel_rfl) ?_
        have hF := fin_set (show Lw w2 v13 B ⟨k, m, g, x, r⟩ ⟨l, n, h, y, s⟩ from L14) (show Rv v13 Z16 from R15) (show w2.heap.size ≤ Z16 from zZ16) (show B + 1 < w2.heap.size from ZB0) (show Vc w2 B ⟨k, m, g, x, r⟩ from VA0) (show Vc w2 (B + 1) ⟨l, n, h, y, s⟩ from VB0) c0 uk0 um0 ug0 ux0 ur0
        obtain ⟨X0, hX⟩ : ∃ X, X = s6 v13 Z16 c0 uk0 um0 ug0 ux0 ur0 := ⟨_, rfl⟩
        rw [← hX] at hF
        have hX' := hX
        unfold s6 at hX'
        rw [← hX']
        clear hX hX' r0 r1 r2 r3 r4 r5 rz L14 R15 zZ16
        have LX0 : Hid (Lw w2 X0 B ⟨k, m, g, x, r⟩ ⟨l, n, h, y, s⟩) := hF.1
        have AX0 : Hid (Ac X0 Z16 c0 ⟨uk0, um0, ug0, ux0, ur0⟩) := hF.2
        clear hF
        have ZB1 : Hid (B + 1 < X0.heap.size) := lt_of_cell (Vc.c0 (Lw.b LX0))
        have VA1 : Hid (Vc X0 B ⟨k, m, g, x, r⟩) := Lw.a LX0
        have VB1 : Hid (Vc X0 (B + 1) ⟨l, n, h, y, s⟩) := Lw.b LX0
        have L9 : Hid (Lw X0 X0 B ⟨k, m, g, x, r⟩ ⟨l, n, h, y, s⟩) := ⟨Kq.refl _, VA1, VB1⟩
        have HT9 : Hid (Tb X0) := Tb.kq HT2 (Lw.kq LX0)
        go_wp2_with fail
        refine AnyL.region (S := (fun W' : World => Vc W' B ⟨k, m, g, x, r⟩ ∧ Vc W' (B + 1) ⟨l, n, h, y, s⟩)) (z := 7) (by kernel_rfl) ?_
        obtain ⟨V1, hVd⟩ : ∃ V, V = X0.drew := ⟨_, rfl⟩
        rw [← hVd]
        have LD : Hid (Lw X0 V1 B ⟨k, m, g, x, r⟩ ⟨l, n, h, y, s⟩) := by rw [hVd]; exact Lw.step L9 (Kq.drew (Kq.refl _))
        have hS0 : (fun W' : World => Vc W' B ⟨k, m, g, x, r⟩ ∧ Vc W' (B + 1) ⟨l, n, h, y, s⟩) V1 := ⟨(show Lw X0 V1 B ⟨k, m, g, x, r⟩ ⟨l, n, h, y, s⟩ from LD).a, (show Lw X0 V1 B ⟨k, m, g, x, r⟩ ⟨l, n, h, y, s⟩ from LD).b⟩
        clear hVd
        refine AnyL.takeAt 0 (.int .i64 op) rfl (by kernel_rfl) (by kernel_rfl) (by kernel_rfl) (by kernel_rfl) (fun _ _ _ h => h) rfl hS0 (by intro W hW; obtain ⟨⟨q0, q1, q2, q3, q4⟩, ⟨p0, p1, p2, p3, p4⟩⟩ := hW; go_simp) ?_
        try simp only [Act.put, List.setIfInBounds_toArray, List.set_cons_zero, List.set_cons_succ]
        refine AnyL.takeAt 1 (.agg #[.int .i64 k, .int .i64 m, .float .f64 g, .string x, .int .i64 r]) rfl (by kernel_rfl) (by kernel_rfl) (by kernel_rfl) (by kernel_rfl) (fun _ _ _ h => h) rfl hS0 (by intro W hW; obtain ⟨⟨q0, q1, q2, q3, q4⟩, ⟨p0, p1, p2, p3, p4⟩⟩ := hW; go_simp) ?_
        try simp only [Act.put, List.setIfInBounds_toArray, List.set_cons_zero, List.set_cons_succ]
        refine AnyL.takeAt 3 (.agg #[.int .i64 l, .int .i64 n, .float .f64 h, .string y, .int .i64 s]) rfl (by kernel_rfl) (by kernel_rfl) (by kernel_rfl) (by kernel_rfl) (fun _ _ _ h => h) rfl hS0 (by intro W hW; obtain ⟨⟨q0, q1, q2, q3, q4⟩, ⟨p0, p1, p2, p3, p4⟩⟩ := hW; go_simp) ?_
        try simp only [Act.put, List.setIfInBounds_toArray, List.set_cons_zero, List.set_cons_succ]
        clear hS0
        refine AnyL.two 2 6 rfl rfl (by kernel_rfl) rfl rfl ?_ ?_
        · intro K hK
          go_simp
          refine (HTA' _).mono ?_
          rintro e v17 ⟨rfl, gg⟩
          have gk : Kq _ v17 := .of_grown gg
          clear gg
          have L18 : Hid (Lw X0 v17 B ⟨k, m, g, x, r⟩ ⟨l, n, h, y, s⟩) := Lw.step LD gk
          clear gk LD
          refine hK.out _ _ (fun _ => ⟨(show Lw X0 v17 B ⟨k, m, g, x, r⟩ ⟨l, n, h, y, s⟩ from L18).a, (show Lw X0 v17 B ⟨k, m, g, x, r⟩ ⟨l, n, h, y, s⟩ from L18).b⟩) ?_
          clear hK K
          try simp only [Act.put, List.setIfInBounds_toArray, List.set_cons_zero, List.set_cons_succ]
          refine AnyL.two 4 6 rfl rfl (by kernel_rfl) rfl rfl ?_ ?_
          · intro K hK
            go_simp
            refine (HTB' _).mono ?_
            rintro e v21 ⟨rfl, gg⟩
            have gk : Kq _ v21 := .of_grown gg
            clear gg
            have L22 : Hid (Lw X0 v21 B ⟨k, m, g, x, r⟩ ⟨l, n, h, y, s⟩) := Lw.step L18 gk
            clear gk L18
            refine hK.out _ _ (fun _ => ⟨(show Lw X0 v21 B ⟨k, m, g, x, r⟩ ⟨l, n, h, y, s⟩ from L22).a, (show Lw X0 v21 B ⟨k, m, g, x, r⟩ ⟨l, n, h, y, s⟩ from L22).b⟩) ?_
            clear hK K
            try simp only [Act.put, List.setIfInBounds_toArray, List.set_cons_zero, List.set_cons_succ]
            refine AnyL.two 5 6 rfl rfl (by kernel_rfl) rfl rfl ?_ ?_
            · intro K hK
              go_simp
              refine (HI' _ (Tb.kq HT9 (Lw.kq L22))).mono ?_
              rintro e v25 ⟨⟨c1, ⟨uk1, um1, ug1, ux1, ur1⟩, rfl, hu⟩, gk⟩
              dsimp only
              have HU1 : Hid (A.is c1 ⟨uk1, um1, ug1, ux1, ur1⟩) := hu
              clear hu
              have L26 : Hid (Lw X0 v25 B ⟨k, m, g, x, r⟩ ⟨l, n, h, y, s⟩) := Lw.step L22 gk
              clear gk L22
              refine hK.out _ _ (fun _ => ⟨(show Lw X0 v25 B ⟨k, m, g, x, r⟩ ⟨l, n, h, y, s⟩ from L26).a, (show Lw X0 v25 B ⟨k, m, g, x, r⟩ ⟨l, n, h, y, s⟩ from L26).b⟩) ?_
              clear hK K
              try simp only [Act.put, List.setIfInBounds_toArray, List.set_cons_zero, List.set_cons_succ]
              refine AnyL.oneAt 6 rfl (by kernel_rfl) rfl ?_
              intro K hK
              go_simp
              obtain ⟨Z32, hZ⟩ : ∃ Z, Z = (v25 : World).heap.size := ⟨_, rfl⟩
              obtain ⟨v29, hW⟩ : ∃ Wn, Wn = (v25 : World).alloc (.cells #[.int .i64 0, .int .i64 0, .int .i64 0, .float .f64 0, .string ⟨#[]⟩, .int .i64 0] 28) := ⟨_, rfl⟩
              have L30 : Hid (Lw X0 v29 B ⟨k, m, g, x, r⟩ ⟨l, n, h, y, s⟩) := Lw.step L26 (by rw [hW]; exact .of_grown (Grown.alloc (Grown.refl _) _ _))
              have R31 : Hid (Rv v29 Z32) := by rw [hW, hZ]; exact Rv.new _ _
              have zZ32 : Hid (X0.heap.size ≤ Z32) := by rw [hZ]; exact (show Lw X0 v25 B ⟨k, m, g, x, r⟩ ⟨l, n, h, y, s⟩ from L26).kq.size
              rw [← hW, ← hZ]
              clear hW hZ L26
              refine hK.out _ _ (fun _ => ⟨(show Lw X0 v29 B ⟨k, m, g, x, r⟩ ⟨l, n, h, y, s⟩ from L30).a, (show Lw X0 v29 B ⟨k, m, g, x, r⟩ ⟨l, n, h, y, s⟩ from L30).b⟩) ?_
              clear hK K
              try simp only [Act.put, List.setIfInBounds_toArray, List.set_cons_zero, List.set_cons_succ]
              obtain ⟨r0, r1, r2, r3, r4, r5, rz⟩ := (show Rv v29 Z32 from R31)
              refine AnyL.oneAt 7 rfl (by kernel_rfl) rfl ?_
              intro K hK
              go_simp
              refine hK.out _ _ (fun h => absurd rfl h) ?_
              clear hK K
              try simp only [Act.put, List.setIfInBounds_toArray, List.set_cons_zero, List.set_cons_succ]
              refine AnyL.done (by kernel_rfl) ?_
              have hF := fin_set (show Lw X0 v29 B ⟨k, m, g, x, r⟩ ⟨l, n, h, y, s⟩ from L30) (show Rv v29 Z32 from R31) (show X0.heap.size ≤ Z32 from zZ32) (show B + 1 < X0.heap.size from ZB1) (show Vc X0 B ⟨k, m, g, x, r⟩ from VA1) (show Vc X0 (B + 1) ⟨l, n, h, y, s⟩ from VB1) c1 uk1 um1 ug1 ux1 ur1
              obtain ⟨X1, hX⟩ : ∃ X, X = s6 v29 Z32 c1 uk1 um1 ug1 ux1 ur1 := ⟨_, rfl⟩
              rw [← hX] at hF
              have hX' := hX
              unfold s6 at hX'
              rw [← hX']
              clear hX hX' r0 r1 r2 r3 r4 r5 rz L30 R31 zZ32
              have LX1 : Hid (Lw X0 X1 B ⟨k, m, g, x, r⟩ ⟨l, n, h, y, s⟩) := hF.1
              have AX1 : Hid (Ac X1 Z32 c1 ⟨uk1, um1, ug1, ux1, ur1⟩) := hF.2
              clear hF
              obtain ⟨e0, e1, e2, e3, e4, e5⟩ := (show Ac X0 Z16 c0 ⟨uk0, um0, ug0, ux0, ur0⟩ from AX0).kq (Lw.kq LX1)
              obtain ⟨f0, f1, f2, f3, f4, f5⟩ := (show Ac X1 Z32 c1 ⟨uk1, um1, ug1, ux1, ur1⟩ from AX1)
              go_wp2_with fail
              refine (HEQ' _ _ ⟨uk1, um1, ug1, ux1, ur1⟩ ⟨uk0, um0, ug0, ux0, ur0⟩ HU1 HU0 _).mono ?_
              rintro e w8 ⟨rfl, g8⟩
              have GF : Hid (Kq w w8) := Kq.trans (Kq.trans K2 (Lw.kq LX0)) (Kq.trans (Lw.kq LX1) (.of_grown g8))
              clear g8 e0 e1 e2 e3 e4 e5 f0 f1 f2 f3 f4 f5
              go_wp2_with fail
              go_ret
              exact ⟨rfl, GF⟩
            · intro K hK
              go_simp
              obtain ⟨Z28, hZ⟩ : ∃ Z, Z = (v21 : World).heap.size := ⟨_, rfl⟩
              obtain ⟨v33, hW⟩ : ∃ Wn, Wn = (v21 : World).alloc (.cells #[.int .i64 0, .int .i64 0, .int .i64 0, .float .f64 0, .string ⟨#[]⟩, .int .i64 0] 28) := ⟨_, rfl⟩
              have L34 : Hid (Lw X0 v33 B ⟨k, m, g, x, r⟩ ⟨l, n, h, y, s⟩) := Lw.step L22 (by rw [hW]; exact .of_grown (Grown.alloc (Grown.refl _) _ _))
              have R27 : Hid (Rv v33 Z28) := by rw [hW, hZ]; exact Rv.new _ _
              have zZ28 : Hid (X0.heap.size ≤ Z28) := by rw [hZ]; exact (show Lw X0 v21 B ⟨k, m, g, x, r⟩ ⟨l, n, h, y, s⟩ from L22).kq.size
              rw [← hW, ← hZ]
              clear hW hZ L22
              refine hK.out _ _ (fun _ => ⟨(show Lw X0 v33 B ⟨k, m, g, x, r⟩ ⟨l, n, h, y, s⟩ from L34).a, (show Lw X0 v33 B ⟨k, m, g, x, r⟩ ⟨l, n, h, y, s⟩ from L34).b⟩) ?_
              clear hK K
              try simp only [Act.put, List.setIfInBounds_toArray, List.set_cons_zero, List.set_cons_succ]
              refine AnyL.oneAt 5 rfl (by kernel_rfl) rfl ?_
              intro K hK
              go_simp
              refine (HI' _ (Tb.kq HT9 (Lw.kq L34))).mono ?_
              rintro e v35 ⟨⟨c1, ⟨uk1, um1, ug1, ux1, ur1⟩, rfl, hu⟩, gk⟩
              dsimp only
              have HU1 : Hid (A.is c1 ⟨uk1, um1, ug1, ux1, ur1⟩) := hu
              clear hu
              have L36 : Hid (Lw X0 v35 B ⟨k, m, g, x, r⟩ ⟨l, n, h, y, s⟩) := Lw.step L34 gk
              have R27n : Hid (Rv v35 Z28) := Rv.kq R27 gk
              clear R27
              clear gk L34
              refine hK.out _ _ (fun _ => ⟨(show Lw X0 v35 B ⟨k, m, g, x, r⟩ ⟨l, n, h, y, s⟩ from L36).a, (show Lw X0 v35 B ⟨k, m, g, x, r⟩ ⟨l, n, h, y, s⟩ from L36).b⟩) ?_
              clear hK K
              try simp only [Act.put, List.setIfInBounds_toArray, List.set_cons_zero, List.set_cons_succ]
              obtain ⟨r0, r1, r2, r3, r4, r5, rz⟩ := (show Rv v35 Z28 from R27n)
              refine AnyL.oneAt 7 rfl (by kernel_rfl) rfl ?_
              intro K hK
              go_simp
              refine hK.out _ _ (fun h => absurd rfl h) ?_
              clear hK K
              try simp only [Act.put, List.setIfInBounds_toArray, List.set_cons_zero, List.set_cons_succ]
              refine AnyL.done (by kernel_rfl) ?_
              have hF := fin_set (show Lw X0 v35 B ⟨k, m, g, x, r⟩ ⟨l, n, h, y, s⟩ from L36) (show Rv v35 Z28 from R27n) (show X0.heap.size ≤ Z28 from zZ28) (show B + 1 < X0.heap.size from ZB1) (show Vc X0 B ⟨k, m, g, x, r⟩ from VA1) (show Vc X0 (B + 1) ⟨l, n, h, y, s⟩ from VB1) c1 uk1 um1 ug1 ux1 ur1
              obtain ⟨X1, hX⟩ : ∃ X, X = s6 v35 Z28 c1 uk1 um1 ug1 ux1 ur1 := ⟨_, rfl⟩
              rw [← hX] at hF
              have hX' := hX
              unfold s6 at hX'
              rw [← hX']
              clear hX hX' r0 r1 r2 r3 r4 r5 rz L36 R27n zZ28
              have LX1 : Hid (Lw X0 X1 B ⟨k, m, g, x, r⟩ ⟨l, n, h, y, s⟩) := hF.1
              have AX1 : Hid (Ac X1 Z28 c1 ⟨uk1, um1, ug1, ux1, ur1⟩) := hF.2
              clear hF
              obtain ⟨e0, e1, e2, e3, e4, e5⟩ := (show Ac X0 Z16 c0 ⟨uk0, um0, ug0, ux0, ur0⟩ from AX0).kq (Lw.kq LX1)
              obtain ⟨f0, f1, f2, f3, f4, f5⟩ := (show Ac X1 Z28 c1 ⟨uk1, um1, ug1, ux1, ur1⟩ from AX1)
              go_wp2_with fail
              refine (HEQ' _ _ ⟨uk1, um1, ug1, ux1, ur1⟩ ⟨uk0, um0, ug0, ux0, ur0⟩ HU1 HU0 _).mono ?_
              rintro e w8 ⟨rfl, g8⟩
              have GF : Hid (Kq w w8) := Kq.trans (Kq.trans K2 (Lw.kq LX0)) (Kq.trans (Lw.kq LX1) (.of_grown g8))
              clear g8 e0 e1 e2 e3 e4 e5 f0 f1 f2 f3 f4 f5
              go_wp2_with fail
              go_ret
              exact ⟨rfl, GF⟩
          · intro K hK
            go_simp
            obtain ⟨Z24, hZ⟩ : ∃ Z, Z = (v17 : World).heap.size := ⟨_, rfl⟩
            obtain ⟨v37, hW⟩ : ∃ Wn, Wn = (v17 : World).alloc (.cells #[.int .i64 0, .int .i64 0, .int .i64 0, .float .f64 0, .string ⟨#[]⟩, .int .i64 0] 28) := ⟨_, rfl⟩
            have L38 : Hid (Lw X0 v37 B ⟨k, m, g, x, r⟩ ⟨l, n, h, y, s⟩) := Lw.step L18 (by rw [hW]; exact .of_grown (Grown.alloc (Grown.refl _) _ _))
            have R23 : Hid (Rv v37 Z24) := by rw [hW, hZ]; exact Rv.new _ _
            have zZ24 : Hid (X0.heap.size ≤ Z24) := by rw [hZ]; exact (show Lw X0 v17 B ⟨k, m, g, x, r⟩ ⟨l, n, h, y, s⟩ from L18).kq.size
            rw [← hW, ← hZ]
            clear hW hZ L18
            refine hK.out _ _ (fun _ => ⟨(show Lw X0 v37 B ⟨k, m, g, x, r⟩ ⟨l, n, h, y, s⟩ from L38).a, (show Lw X0 v37 B ⟨k, m, g, x, r⟩ ⟨l, n, h, y, s⟩ from L38).b⟩) ?_
            clear hK K
            try simp only [Act.put, List.setIfInBounds_toArray, List.set_cons_zero, List.set_cons_succ]
            refine AnyL.oneAt 4 rfl (by kernel_rfl) rfl ?_
            intro K hK
            go_simp
            refine (HTB' _).mono ?_
            rintro e v39 ⟨rfl, gg⟩
            have gk : Kq _ v39 := .of_grown gg
            clear gg
            have L40 : Hid (Lw X0 v39 B ⟨k, m, g, x, r⟩ ⟨l, n, h, y, s⟩) := Lw.step L38 gk
            have R23n : Hid (Rv v39 Z24) := Rv.kq R23 gk
            clear R23
            clear gk L38
            refine hK.out _ _ (fun _ => ⟨(show Lw X0 v39 B ⟨k, m, g, x, r⟩ ⟨l, n, h, y, s⟩ from L40).a, (show Lw X0 v39 B ⟨k, m, g, x, r⟩ ⟨l, n, h, y, s⟩ from L40).b⟩) ?_
            clear hK K
            try simp only [Act.put, List.setIfInBounds_toArray, List.set_cons_zero, List.set_cons_succ]
            refine AnyL.oneAt 5 rfl (by kernel_rfl) rfl ?_
            intro K hK
            go_simp
            refine (HI' _ (Tb.kq HT9 (Lw.kq L40))).mono ?_
            rintro e v41 ⟨⟨c1, ⟨uk1, um1, ug1, ux1, ur1⟩, rfl, hu⟩, gk⟩
            dsimp only
            have HU1 : Hid (A.is c1 ⟨uk1, um1, ug1, ux1, ur1⟩) := hu
            clear hu
            have L42 : Hid (Lw X0 v41 B ⟨k, m, g, x, r⟩ ⟨l, n, h, y, s⟩) := Lw.step L40 gk
            have R23nn : Hid (Rv v41 Z24) := Rv.kq R23n gk
            clear R23n
            clear gk L40
            refine hK.out _ _ (fun _ => ⟨(show Lw X0 v41 B ⟨k, m, g, x, r⟩ ⟨l, n, h, y, s⟩ from L42).a, (show Lw X0 v41 B ⟨k, m, g, x, r⟩ ⟨l, n, h, y, s⟩ from L42).b⟩) ?_
            clear hK K
            try simp only [Act.put, List.setIfInBounds_toArray, List.set_cons_zero, List.set_cons_succ]
            obtain ⟨r0, r1, r2, r3, r4, r5, rz⟩ := (show Rv v41 Z24 from R23nn)
            refine AnyL.oneAt 7 rfl (by kernel_rfl) rfl ?_
            intro K hK
            go_simp
            refine hK.out _ _ (fun h => absurd rfl h) ?_
            clear hK K
            try simp only [Act.put, List.setIfInBounds_toArray, List.set_cons_zero, List.set_cons_succ]
            refine AnyL.done (by kernel_rfl) ?_
            have hF := fin_set (show Lw X0 v41 B ⟨k, m, g, x, r⟩ ⟨l, n, h, y, s⟩ from L42) (show Rv v41 Z24 from R23nn) (show X0.heap.size ≤ Z24 from zZ24) (show B + 1 < X0.heap.size from ZB1) (show Vc X0 B ⟨k, m, g, x, r⟩ from VA1) (show Vc X0 (B + 1) ⟨l, n, h, y, s⟩ from VB1) c1 uk1 um1 ug1 ux1 ur1
            obtain ⟨X1, hX⟩ : ∃ X, X = s6 v41 Z24 c1 uk1 um1 ug1 ux1 ur1 := ⟨_, rfl⟩
            rw [← hX] at hF
            have hX' := hX
            unfold s6 at hX'
            rw [← hX']
            clear hX hX' r0 r1 r2 r3 r4 r5 rz L42 R23nn zZ24
            have LX1 : Hid (Lw X0 X1 B ⟨k, m, g, x, r⟩ ⟨l, n, h, y, s⟩) := hF.1
            have AX1 : Hid (Ac X1 Z24 c1 ⟨uk1, um1, ug1, ux1, ur1⟩) := hF.2
            clear hF
            obtain ⟨e0, e1, e2, e3, e4, e5⟩ := (show Ac X0 Z16 c0 ⟨uk0, um0, ug0, ux0, ur0⟩ from AX0).kq (Lw.kq LX1)
            obtain ⟨f0, f1, f2, f3, f4, f5⟩ := (show Ac X1 Z24 c1 ⟨uk1, um1, ug1, ux1, ur1⟩ from AX1)
            go_wp2_with fail
            refine (HEQ' _ _ ⟨uk1, um1, ug1, ux1, ur1⟩ ⟨uk0, um0, ug0, ux0, ur0⟩ HU1 HU0 _).mono ?_
            rintro e w8 ⟨rfl, g8⟩
            have GF : Hid (Kq w w8) := Kq.trans (Kq.trans K2 (Lw.kq LX0)) (Kq.trans (Lw.kq LX1) (.of_grown g8))
            clear g8 e0 e1 e2 e3 e4 e5 f0 f1 f2 f3 f4 f5
            go_wp2_with fail
            go_ret
            exact ⟨rfl, GF⟩
        · intro K hK
          go_simp
          obtain ⟨Z20, hZ⟩ : ∃ Z, Z = (V1 : World).heap.size := ⟨_, rfl⟩
          obtain ⟨v43, hW⟩ : ∃ Wn, Wn = (V1 : World).alloc (.cells #[.int .i64 0, .int .i64 0, .int .i64 0, .float .f64 0, .string ⟨#[]⟩, .int .i64 0] 28) := ⟨_, rfl⟩
          have L44 : Hid (Lw X0 v43 B ⟨k, m, g, x, r⟩ ⟨l, n, h, y, s⟩) := Lw.step LD (by rw [hW]; exact .of_grown (Grown.alloc (Grown.refl _) _ _))
          have R19 : Hid (Rv v43 Z20) := by rw [hW, hZ]; exact Rv.new _ _
          have zZ20 : Hid (X0.heap.size ≤ Z20) := by rw [hZ]; exact (show Lw X0 V1 B ⟨k, m, g, x, r⟩ ⟨l, n, h, y, s⟩ from LD).kq.size
          rw [← hW, ← hZ]
          clear hW hZ LD
          refine hK.out _ _ (fun _ => ⟨(show Lw X0 v43 B ⟨k, m, g, x, r⟩ ⟨l, n, h, y, s⟩ from L44).a, (show Lw X0 v43 B ⟨k, m, g, x, r⟩ ⟨l, n, h, y, s⟩ from L44).b⟩) ?_
          clear hK K
          try simp only [Act.put, List.setIfInBounds_toArray, List.set_cons_zero, List.set_cons_succ]
          refine AnyL.oneAt 2 rfl (by kernel_rfl) rfl ?_
          intro K hK
          go_simp
          refine (HTA' _).mono ?_
          rintro e v45 ⟨rfl, gg⟩
          have gk : Kq _ v45 := .of_grown gg
          clear gg
          have L46 : Hid (Lw X0 v45 B ⟨k, m, g, x, r⟩ ⟨l, n, h, y, s⟩) := Lw.step L44 gk
          have R19n : Hid (Rv v45 Z20) := Rv.kq R19 gk
          clear R19
          clear gk L44
          refine hK.out _ _ (fun _ => ⟨(show Lw X0 v45 B ⟨k, m, g, x, r⟩ ⟨l, n, h, y, s⟩ from L46).a, (show Lw X0 v45 B ⟨k, m, g, x, r⟩ ⟨l, n, h, y, s⟩ from L46).b⟩) ?_
          clear hK K
          try simp only [Act.put, List.setIfInBounds_toArray, List.set_cons_zero, List.set_cons_succ]
          refine AnyL.oneAt 4 rfl (by kernel_rfl) rfl ?_
          intro K hK
          go_simp
          refine (HTB' _).mono ?_
          rintro e v47 ⟨rfl, gg⟩
          have gk : Kq _ v47 := .of_grown gg
          clear gg
          have L48 : Hid (Lw X0 v47 B ⟨k, m, g, x, r⟩ ⟨l, n, h, y, s⟩) := Lw.step L46 gk
          have R19nn : Hid (Rv v47 Z20) := Rv.kq R19n gk
          clear R19n
          clear gk L46
          refine hK.out _ _ (fun _ => ⟨(show Lw X0 v47 B ⟨k, m, g, x, r⟩ ⟨l, n, h, y, s⟩ from L48).a, (show Lw X0 v47 B ⟨k, m, g, x, r⟩ ⟨l, n, h, y, s⟩ from L48).b⟩) ?_
          clear hK K
          try simp only [Act.put, List.setIfInBounds_toArray, List.set_cons_zero, List.set_cons_succ]
          refine AnyL.oneAt 5 rfl (by kernel_rfl) rfl ?_
          intro K hK
          go_simp
          refine (HI' _ (Tb.kq HT9 (Lw.kq L48))).mono ?_
          rintro e v49 ⟨⟨c1, ⟨uk1, um1, ug1, ux1, ur1⟩, rfl, hu⟩, gk⟩
          dsimp only
          have HU1 : Hid (A.is c1 ⟨uk1, um1, ug1, ux1, ur1⟩) := hu
          clear hu
          have L50 : Hid (Lw X0 v49 B ⟨k, m, g, x, r⟩ ⟨l, n, h, y, s⟩) := Lw.step L48 gk
          have R19nnn : Hid (Rv v49 Z20) := Rv.kq R19nn gk
          clear R19nn
          clear gk L48
          refine hK.out _ _ (fun _ => ⟨(show Lw X0 v49 B ⟨k, m, g, x, r⟩ ⟨l, n, h, y, s⟩ from L50).a, (show Lw X0 v49 B ⟨k, m, g, x, r⟩ ⟨l, n, h, y, s⟩ from L50).b⟩) ?_
          clear hK K
          try simp only [Act.put, List.setIfInBounds_toArray, List.set_cons_zero, List.set_cons_succ]
          obtain ⟨r0, r1, r2, r3, r4, r5, rz⟩ := (show Rv v49 Z20 from R19nnn)
          refine AnyL.oneAt 7 rfl (by kernel_rfl) rfl ?_
          intro K hK
          go_simp
          refine hK.out _ _ (fun h => absurd rfl h) ?_
          clear hK K
          try simp only [Act.put, List.setIfInBounds_toArray, List.set_cons_zero, List.set_cons_succ]
          refine AnyL.done (by kernel_rfl) ?_
          have hF := fin_set (show Lw X0 v49 B ⟨k, m, g, x, r⟩ ⟨l, n, h, y, s⟩ from L50) (show Rv v49 Z20 from R19nnn) (show X0.heap.size ≤ Z20 from zZ20) (show B + 1 < X0.heap.size from ZB1) (show Vc X0 B ⟨k, m, g, x, r⟩ from VA1) (show Vc X0 (B + 1) ⟨l, n, h, y, s⟩ from VB1) c1 uk1 um1 ug1 ux1 ur1
          obtain ⟨X1, hX⟩ : ∃ X, X = s6 v49 Z20 c1 uk1 um1 ug1 ux1 ur1 := ⟨_, rfl⟩
          rw [← hX] at hF
          have hX' := hX
          unfold s6 at hX'
          rw [← hX']
          clear hX hX' r0 r1 r2 r3 r4 r5 rz L50 R19nnn zZ20
          have LX1 : Hid (Lw X0 X1 B ⟨k, m, g, x, r⟩ ⟨l, n, h, y, s⟩) := hF.1
          have AX1 : Hid (Ac X1 Z20 c1 ⟨uk1, um1, ug1, ux1, ur1⟩) := hF.2
          clear hF
          obtain ⟨e0, e1, e2, e3, e4, e5⟩ := (show Ac X0 Z16 c0 ⟨uk0, um0, ug0, ux0, ur0⟩ from AX0).kq (Lw.kq LX1)
          obtain ⟨f0, f1, f2, f3, f4, f5⟩ := (show Ac X1 Z20 c1 ⟨uk1, um1, ug1, ux1, ur1⟩ from AX1)
          go_wp2_with fail
          refine (HEQ' _ _ ⟨uk1, um1, ug1, ux1, ur1⟩ ⟨uk0, um0, ug0, ux0, ur0⟩ HU1 HU0 _).mono ?_
          rintro e w8 ⟨rfl, g8⟩
          have GF : Hid (Kq w w8) := Kq.trans (Kq.trans K2 (Lw.kq LX0)) (Kq.trans (Lw.kq LX1) (.of_grown g8))
          clear g8 e0 e1 e2 e3 e4 e5 f0 f1 f2 f3 f4 f5
          go_wp2_with fail
          go_ret
          exact ⟨rfl, GF⟩
      · intro K hK
        go_simp
        obtain ⟨Z12, hZ⟩ : ∃ Z, Z = (v5 : World).heap.size := ⟨_, rfl⟩
        obtain ⟨v51, hW⟩ : ∃ Wn, Wn = (v5 : World).alloc (.cells #[.int .i64 0, .int .i64 0, .int .i64 0, .float .f64 0, .string ⟨#[]⟩, .int .i64 0] 28) := ⟨_, rfl⟩
        have L52 : Hid (Lw w2 v51 B ⟨k, m, g, x, r⟩ ⟨l, n, h, y, s⟩) := Lw.step L6 (by rw [hW]; exact .of_grown (Grown.alloc (Grown.refl _) _ _))
        have R11 : Hid (Rv v51 Z12) := by rw [hW, hZ]; exact Rv.new _ _
        have zZ12 : Hid (w2.heap.size ≤ Z12) := by rw [hZ]; exact (show Lw w2 v5 B ⟨k, m, g, x, r⟩ ⟨l, n, h, y, s⟩ from L6).kq.size
        rw [← hW, ← hZ]
        clear hW hZ L6
        refine hK.out _ _ (fun _ => ⟨(show Lw w2 v51 B ⟨k, m, g, x, r⟩ ⟨l, n, h, y, s⟩ from L52).a, (show Lw w2 v51 B ⟨k, m, g, x, r⟩ ⟨l, n, h, y, s⟩ from L52).b⟩) ?_
        clear hK K
        try simp only [Act.put, List.setIfInBounds_toArray, List.set_cons_zero, List.set_cons_succ]
        refine AnyL.oneAt 5 rfl (by kernel_rfl) rfl ?_
        intro K hK
        go_simp
        refine (HO' _).mono ?_
        rintro e v53 ⟨⟨c0, ⟨uk0, um0, ug0, ux0, ur0⟩, rfl, hu⟩, gk⟩
        dsimp only
        have HU0 : Hid (A.is c0 ⟨uk0, um0, ug0, ux0, ur0⟩) := hu
        clear hu
        have L54 : Hid (Lw w2 v53 B ⟨k, m, g, x, r⟩ ⟨l, n, h, y, s⟩) := Lw.step L52 gk
        have R11n : Hid (Rv v53 Z12) := Rv.kq R11 gk
        clear R11
        clear gk L52
        refine hK.out _ _ (fun _ => ⟨(show Lw w2 v53 B ⟨k, m, g, x, r⟩ ⟨l, n, h, y, s⟩ from L54).a, (show Lw w2 v53 B ⟨k, m, g, x, r⟩ ⟨l, n, h, y, s⟩ from L54).b⟩) ?_
        clear hK K
        try simp only [Act.put, List.setIfInBounds_toArray, List.set_cons_zero, List.set_cons_succ]
        obtain ⟨r0, r1, r2, r3, r4, r5, rz⟩ := (show Rv v53 Z12 from R11n)
        refine AnyL.oneAt 7 rfl (by kernel_rfl) rfl ?_
        intro K hK
        go_simp
        refine hK.out _ _ (fun h => absurd rfl h) ?_
        clear hK K
        try simp only [Act.put, List.setIfInBounds_toArray, List.set_cons_zero, List.set_cons_succ]
        refine AnyL.done (by kernel_rfl) ?_
        have hF := fin_set (show Lw w2 v53 B ⟨k, m, g, x, r⟩ ⟨l, n, h, y, s⟩ from L54) (show Rv v53 Z12 from R11n) (show w2.heap.size ≤ Z12 from zZ12) (show B + 1 < w2.heap.size from ZB0) (show Vc w2 B ⟨k, m, g, x, r⟩ from VA0) (show Vc w2 (B + 1) ⟨l, n, h, y, s⟩ from VB0) c0 uk0 um0 ug0 ux0 ur0
        obtain ⟨X0, hX⟩ : ∃ X, X = s6 v53 Z12 c0 uk0 um0 ug0 ux0 ur0 := ⟨_, rfl⟩
        rw [← hX] at hF
        have hX' := hX
        unfold s6 at hX'
        rw [← hX']
        clear hX hX' r0 r1 r2 r3 r4 r5 rz L54 R11n zZ12
        have LX0 : Hid (Lw w2 X0 B ⟨k, m, g, x, r⟩ ⟨l, n, h, y, s⟩) := hF.1
        have AX0 : Hid (Ac X0 Z12 c0 ⟨uk0, um0, ug0, ux0, ur0⟩) := hF.2
        clear hF
        have ZB1 : Hid (B + 1 < X0.heap.size) := lt_of_cell (Vc.c0 (Lw.b LX0))
        have VA1 : Hid (Vc X0 B ⟨k, m, g, x, r⟩) := Lw.a LX0
        have VB1 : Hid (Vc X0 (B + 1) ⟨l, n, h, y, s⟩) := Lw.b LX0
        have L9 : Hid (Lw X0 X0 B ⟨k, m, g, x, r⟩ ⟨l, n, h, y, s⟩) := ⟨Kq.refl _, VA1, VB1⟩
        have HT9 : Hid (Tb X0) := Tb.kq HT2 (Lw.kq LX0)
        go_wp2_with fail
        refine AnyL.region (S := (fun W' : World => Vc W' B ⟨k, m, g, x, r⟩ ∧ Vc W' (B + 1) ⟨l, n, h, y, s⟩)) (z := 7) (by kernel_rfl) ?_
        obtain ⟨V1, hVd⟩ : ∃ V, V = X0.drew := ⟨_, rfl⟩
        rw [← hVd]
        have LD : Hid (Lw X0 V1 B ⟨k, m, g, x, r⟩ ⟨l, n, h, y, s⟩) := by rw [hVd]; exact Lw.step L9 (Kq.drew (Kq.refl _))
        have hS0 : (fun W' : World => Vc W' B ⟨k, m, g, x, r⟩ ∧ Vc W' (B + 1) ⟨l, n, h, y, s⟩) V1 := ⟨(show Lw X0 V1 B ⟨k, m, g, x, r⟩ ⟨l, n, h, y, s⟩ from LD).a, (show Lw X0 V1 B ⟨k, m, g, x, r⟩ ⟨l, n, h, y, s⟩ from LD).b⟩
        clear hVd
        refine AnyL.takeAt 0 (.int .i64 op) rfl (by kernel_rfl) (by kernel_rfl) (by kernel_rfl) (by kernel_rfl) (fun _ _ _ h => h) rfl hS0 (by intro W hW; obtain ⟨⟨q0, q1, q2, q3, q4⟩, ⟨p0, p1, p2, p3, p4⟩⟩ := hW; go_simp) ?_
        try simp only [Act.put, List.setIfInBounds_toArray, List.set_cons_zero, List.set_cons_succ]
        refine AnyL.takeAt 1 (.agg #[.int .i64 k, .int .i64 m, .float .f64 g, .string x, .int .i64 r]) rfl (by kernel_rfl) (by kernel_rfl) (by kernel_rfl) (by kernel_rfl) (fun _ _ _ h => h) rfl hS0 (by intro W hW; obtain ⟨⟨q0, q1, q2, q3, q4⟩, ⟨p0, p1, p2, p3, p4⟩⟩ := hW; go_simp) ?_
        try simp only [Act.put, List.setIfInBounds_toArray, List.set_cons_zero, List.set_cons_succ]
        refine AnyL.takeAt 3 (.agg #[.int .i64 l, .int .i64 n, .float .f64 h, .string y, .int .i64 s]) rfl (by kernel_rfl) (by kernel_rfl) (by kernel_rfl) (by kernel_rfl) (fun _ _ _ h => h) rfl hS0 (by intro W hW; obtain ⟨⟨q0, q1, q2, q3, q4⟩, ⟨p0, p1, p2, p3, p4⟩⟩ := hW; go_simp) ?_
        try simp only [Act.put, List.setIfInBounds_toArray, List.set_cons_zero, List.set_cons_succ]
        clear hS0
        refine AnyL.two 2 6 rfl rfl (by kernel_rfl) rfl rfl ?_ ?_
        · intro K hK
          go_simp
          refine (HTA' _).mono ?_
          rintro e v55 ⟨rfl, gg⟩
          have gk : Kq _ v55 := .of_grown gg
          clear gg
          have L56 : Hid (Lw X0 v55 B ⟨k, m, g, x, r⟩ ⟨l, n, h, y, s⟩) := Lw.step LD gk
          clear gk LD
          refine hK.out _ _ (fun _ => ⟨(show Lw X0 v55 B ⟨k, m, g, x, r⟩ ⟨l, n, h, y, s⟩ from L56).a, (show Lw X0 v55 B ⟨k, m, g, x, r⟩ ⟨l, n, h, y, s⟩ from L56).b⟩) ?_
          clear hK K
          try simp only [Act.put, List.setIfInBounds_toArray, List.set_cons_zero, List.set_cons_succ]
          refine AnyL.two 4 6 rfl rfl (by kernel_rfl) rfl rfl ?_ ?_
          · intro K hK
            go_simp
            refine (HTB' _).mono ?_
            rintro e v59 ⟨rfl, gg⟩
            have gk : Kq _ v59 := .of_grown gg
            clear gg
            have L60 : Hid (Lw X0 v59 B ⟨k, m, g, x, r⟩ ⟨l, n, h, y, s⟩) := Lw.step L56 gk
            clear gk L56
            refine hK.out _ _ (fun _ => ⟨(show Lw X0 v59 B ⟨k, m, g, x, r⟩ ⟨l, n, h, y, s⟩ from L60).a, (show Lw X0 v59 B ⟨k, m, g, x, r⟩ ⟨l, n, h, y, s⟩ from L60).b⟩) ?_
            clear hK K
            try simp only [Act.put, List.setIfInBounds_toArray, List.set_cons_zero, List.set_cons_succ]
            refine AnyL.two 5 6 rfl rfl (by kernel_rfl) rfl rfl ?_ ?_
            · intro K hK
              go_simp
              refine (HI' _ (Tb.kq HT9 (Lw.kq L60))).mono ?_
              rintro e v63 ⟨⟨c1, ⟨uk1, um1, ug1, ux1, ur1⟩, rfl, hu⟩, gk⟩
              dsimp only
              have HU1 : Hid (A.is c1 ⟨uk1, um1, ug1, ux1, ur1⟩) := hu
              clear hu
              have L64 : Hid (Lw X0 v63 B ⟨k, m, g, x, r⟩ ⟨l, n, h, y, s⟩) := Lw.step L60 gk
              clear gk L60
              refine hK.out _ _ (fun _ => ⟨(show Lw X0 v63 B ⟨k, m, g, x, r⟩ ⟨l, n, h, y, s⟩ from L64).a, (show Lw X0 v63 B ⟨k, m, g, x, r⟩ ⟨l, n, h, y, s⟩ from L64).b⟩) ?_
              clear hK K
              try simp only [Act.put, List.setIfInBounds_toArray, List.set_cons_zero, List.set_cons_succ]
              refine AnyL.oneAt 6 rfl (by kernel_rfl) rfl ?_
              intro K hK
              go_simp
              obtain ⟨Z70, hZ⟩ : ∃ Z, Z = (v63 : World).heap.size := ⟨_, rfl⟩
              obtain ⟨v67, hW⟩ : ∃ Wn, Wn = (v63 : World).alloc (.cells #[.int .i64 0, .int .i64 0, .int .i64 0, .float .f64 0, .string ⟨#[]⟩, .int .i64 0] 28) := ⟨_, rfl⟩
              have L68 : Hid (Lw X0 v67 B ⟨k, m, g, x, r⟩ ⟨l, n, h, y, s⟩) := Lw.step L64 (by rw [hW]; exact .of_grown (Grown.alloc (Grown.refl _) _ _))
              have R69 : Hid (Rv v67 Z70) := by rw [hW, hZ]; exact Rv.new _ _
              have zZ70 : Hid (X0.heap.size ≤ Z70) := by rw [hZ]; exact (show Lw X0 v63 B ⟨k, m, g, x, r⟩ ⟨l, n, h, y, s⟩ from L64).kq.size
              rw [← hW, ← hZ]
              clear hW hZ L64
              refine hK.out _ _ (fun _ => ⟨(show Lw X0 v67 B ⟨k, m, g, x, r⟩ ⟨l, n, h, y, s⟩ from L68).a, (show Lw X0 v67 B ⟨k, m, g, x, r⟩ ⟨l, n, h, y, s⟩ from L68).b⟩) ?_
              clear hK K
              try simp only [Act.put, List.setIfInBounds_toArray, List.set_cons_zero, List.set_cons_succ]
              obtain ⟨r0, r1, r2, r3, r4, r5, rz⟩ := (show Rv v67 Z70 from R69)
              refine AnyL.oneAt 7 rfl (by kernel_rfl) rfl ?_
              intro K hK
              go_simp
              refine hK.out _ _ (fun h => absurd rfl h) ?_
              clear hK K
              try simp only [Act.put, List.setIfInBounds_toArray, List.set_cons_zero, List.set_cons_succ]
              refine AnyL.done (by kernel_rfl) ?_
              have hF := fin_set (show Lw X0 v67 B ⟨k, m, g, x, r⟩ ⟨l, n, h, y, s⟩ from L68) (show Rv v67 Z70 from R69) (show X0.heap.size ≤ Z70 from zZ70) (show B + 1 < X0.heap.size from ZB1) (show Vc X0 B ⟨k, m, g, x, r⟩ from VA1) (show Vc X0 (B + 1) ⟨l, n, h, y, s⟩ from VB1) c1 uk1 um1 ug1 ux1 ur1
              obtain ⟨X1, hX⟩ : ∃ X, X = s6 v67 Z70 c1 uk1 um1 ug1 ux1 ur1 := ⟨_, rfl⟩
              rw [← hX] at hF
              have hX' := hX
              unfold s6 at hX'
              rw [← hX']
              clear hX hX' r0 r1 r2 r3 r4 r5 rz L68 R69 zZ70
              have LX1 : Hid (Lw X0 X1 B ⟨k, m, g, x, r⟩ ⟨l, n, h, y, s⟩) := hF.1
              have AX1 : Hid (Ac X1 Z70 c1 ⟨uk1, um1, ug1, ux1, ur1⟩) := hF.2
              clear hF
              obtain ⟨e0, e1, e2, e3, e4, e5⟩ := (show Ac X0 Z12 c0 ⟨uk0, um0, ug0, ux0, ur0⟩ from AX0).kq (Lw.kq LX1)
              obtain ⟨f0, f1, f2, f3, f4, f5⟩ := (show Ac X1 Z70 c1 ⟨uk1, um1, ug1, ux1, ur1⟩ from AX1)
              go_wp2_with fail
              refine (HEQ' _ _ ⟨uk1, um1, ug1, ux1, ur1⟩ ⟨uk0, um0, ug0, ux0, ur0⟩ HU1 HU0 _).mono ?_
              rintro e w8 ⟨rfl, g8⟩
              have GF : Hid (Kq w w8) := Kq.trans (Kq.trans K2 (Lw.kq LX0)) (Kq.trans (Lw.kq LX1) (.of_grown g8))
              clear g8 e0 e1 e2 e3 e4 e5 f0 f1 f2 f3 f4 f5
              go_wp2_with fail
              go_ret
              exact ⟨rfl, GF⟩
            · intro K hK
              go_simp
              obtain ⟨Z66, hZ⟩ : ∃ Z, Z = (v59 : World).heap.size := ⟨_, rfl⟩
              obtain ⟨v71, hW⟩ : ∃ Wn, Wn = (v59 : World).alloc (.cells #[.int .i64 0, .int .i64 0, .int .i64 0, .float .f64 0, .string ⟨#[]⟩, .int .i64 0] 28) := ⟨_, rfl⟩
              have L72 : Hid (Lw X0 v71 B ⟨k, m, g, x, r⟩ ⟨l, n, h, y, s⟩) := Lw.step L60 (by rw [hW]; exact .of_grown (Grown.alloc (Grown.refl _) _ _))
              have R65 : Hid (Rv v71 Z66) := by rw [hW, hZ]; exact Rv.new _ _
              have zZ66 : Hid (X0.heap.size ≤ Z66) := by rw [hZ]; exact (show Lw X0 v59 B ⟨k, m, g, x, r⟩ ⟨l, n, h, y, s⟩ from L60).kq.size
              rw [← hW, ← hZ]
              clear hW hZ L60
              refine hK.out _ _ (fun _ => ⟨(show Lw X0 v71 B ⟨k, m, g, x, r⟩ ⟨l, n, h, y, s⟩ from L72).a, (show Lw X0 v71 B ⟨k, m, g, x, r⟩ ⟨l, n, h, y, s⟩ from L72).b⟩) ?_
              clear hK K
              try simp only [Act.put, List.setIfInBounds_toArray, List.set_cons_zero, List.set_cons_succ]
              refine AnyL.oneAt 5 rfl (by kernel_rfl) rfl ?_
              intro K hK
              go_simp
              refine (HI' _ (Tb.kq HT9 (Lw.kq L72))).mono ?_
              rintro e v73 ⟨⟨c1, ⟨uk1, um1, ug1, ux1, ur1⟩, rfl, hu⟩, gk⟩
              dsimp only
              have HU1 : Hid (A.is c1 ⟨uk1, um1, ug1, ux1, ur1⟩) := hu
              clear hu
              have L74 : Hid (Lw X0 v73 B ⟨k, m, g, x, r⟩ ⟨l, n, h, y, s⟩) := Lw.step L72 gk
              have R65n : Hid (Rv v73 Z66) := Rv.kq R65 gk
              clear R65
              clear gk L72
              refine hK.out _ _ (fun _ => ⟨(show Lw X0 v73 B ⟨k, m, g, x, r⟩ ⟨l, n, h, y, s⟩ from L74).a, (show Lw X0 v73 B ⟨k, m, g, x, r⟩ ⟨l, n, h, y, s⟩ from L74).b⟩) ?_
              clear hK K
              try simp only [Act.put, List.setIfInBounds_toArray, List.set_cons_zero, List.set_cons_succ]
              obtain ⟨r0, r1, r2, r3, r4, r5, rz⟩ := (show Rv v73 Z66 from R65n)
              refine AnyL.oneAt 7 rfl (by kernel_rfl) rfl ?_
              intro K hK
              go_simp
              refine hK.out _ _ (fun h => absurd rfl h) ?_
              clear hK K
              try simp only [Act.put, List.setIfInBounds_toArray, List.set_cons_zero, List.set_cons_succ]
              refine AnyL.done (by kernel_rfl) ?_
              have hF := fin_set (show Lw X0 v73 B ⟨k, m, g, x, r⟩ ⟨l, n, h, y, s⟩ from L74) (show Rv v73 Z66 from R65n) (show X0.heap.size ≤ Z66 from zZ66) (show B + 1 < X0.heap.size from ZB1) (show Vc X0 B ⟨k, m, g, x, r⟩ from VA1) (show Vc X0 (B + 1) ⟨l, n, h, y, s⟩ from VB1) c1 uk1 um1 ug1 ux1 ur1
              obtain ⟨X1, hX⟩ : ∃ X, X = s6 v73 Z66 c1 uk1 um1 ug1 ux1 ur1 := ⟨_, rfl⟩
              rw [← hX] at hF
              have hX' := hX
              unfold s6 at hX'
              rw [← hX']
              clear hX hX' r0 r1 r2 r3 r4 r5 rz L74 R65n zZ66
              have LX1 : Hid (Lw X0 X1 B ⟨k, m, g, x, r⟩ ⟨l, n, h, y, s⟩) := hF.1
              have AX1 : Hid (Ac X1 Z66 c1 ⟨uk1, um1, ug1, ux1, ur1⟩) := hF.2
              clear hF
              obtain ⟨e0, e1, e2, e3, e4, e5⟩ := (show Ac X0 Z12 c0 ⟨uk0, um0, ug0, ux0, ur0⟩ from AX0).kq (Lw.kq LX1)
              obtain ⟨f0, f1, f2, f3, f4, f5⟩ := (show Ac X1 Z66 c1 ⟨uk1, um1, ug1, ux1, ur1⟩ from AX1)
              go_wp2_with fail
              refine (HEQ' _ _ ⟨uk1, um1, ug1, ux1, ur1⟩ ⟨uk0, um0, ug0, ux0, ur0⟩ HU1 HU0 _).mono ?_
              rintro e w8 ⟨rfl, g8⟩
              have GF : Hid (Kq w w8) := Kq.trans (Kq.trans K2 (Lw.kq LX0)) (Kq.trans (Lw.kq LX1) (.of_grown g8))
              clear g8 e0 e1 e2 e3 e4 e5 f0 f1 f2 f3 f4 f5
              go_wp2_with fail
              go_ret
              exact ⟨rfl, GF⟩
          · intro K hK
            go_simp
            obtain ⟨Z62, hZ⟩ : ∃ Z, Z = (v55 : World).heap.size := ⟨_, rfl⟩
            obtain ⟨v75, hW⟩ : ∃ Wn, Wn = (v55 : World).alloc (.cells #[.int .i64 0, .int .i64 0, .int .i64 0, .float .f64 0, .string ⟨#[]⟩, .int .i64 0] 28) := ⟨_, rfl⟩
            have L76 : Hid (Lw X0 v75 B ⟨k, m, g, x, r⟩ ⟨l, n, h, y, s⟩) := Lw.step L56 (by rw [hW]; exact .of_grown (Grown.alloc (Grown.refl _) _ _))
            have R61 : Hid (Rv v75 Z62) := by rw [hW, hZ]; exact Rv.new _ _
            have zZ62 : Hid (X0.heap.size ≤ Z62) := by rw [hZ]; exact (show Lw X0 v55 B ⟨k, m, g, x, r⟩ ⟨l, n, h, y, s⟩ from L56).kq.size
            rw [← hW, ← hZ]
            clear hW hZ L56
            refine hK.out _ _ (fun _ => ⟨(show Lw X0 v75 B ⟨k, m, g, x, r⟩ ⟨l, n, h, y, s⟩ from L76).a, (show Lw X0 v75 B ⟨k, m, g, x, r⟩ ⟨l, n, h, y, s⟩ from L76).b⟩) ?_
            clear hK K
            try simp only [Act.put, List.setIfInBounds_toArray, List.set_cons_zero, List.set_cons_succ]
            refine AnyL.oneAt 4 rfl (by kernel_rfl) rfl ?_
            intro K hK
            go_simp
            refine (HTB' _).mono ?_
            rintro e v77 ⟨rfl, gg⟩
            have gk : Kq _ v77 := .of_grown gg
            clear gg
            have L78 : Hid (Lw X0 v77 B ⟨k, m, g, x, r⟩ ⟨l, n, h, y, s⟩) := Lw.step L76 gk
            have R61n : Hid (Rv v77 Z62) := Rv.kq R61 gk
            clear R61
            clear gk L76
            refine hK.out _ _ (fun _ => ⟨(show Lw X0 v77 B ⟨k, m, g, x, r⟩ ⟨l, n, h, y, s⟩ from L78).a, (show Lw X0 v77 B ⟨k, m, g, x, r⟩ ⟨l, n, h, y, s⟩ from L78).b⟩) ?_
            clear hK K
            try simp only [Act.put, List.setIfInBounds_toArray, List.set_cons_zero, List.set_cons_succ]
            refine AnyL.oneAt 5 rfl (by kernel_rfl) rfl ?_
            intro K hK
            go_simp
            refine (HI' _ (Tb.kq HT9 (Lw.kq L78))).mono ?_
            rintro e v79 ⟨⟨c1, ⟨uk1, um1, ug1, ux1, ur1⟩, rfl, hu⟩, gk⟩
            dsimp only
            have HU1 : Hid (A.is c1 ⟨uk1, um1, ug1, ux1, ur1⟩) := hu
            clear hu
            have L80 : Hid (Lw X0 v79 B ⟨k, m, g, x, r⟩ ⟨l, n, h, y, s⟩) := Lw.step L78 gk
            have R61nn : Hid (Rv v79 Z62) := Rv.kq R61n gk
            clear R61n
            clear gk L78
            refine hK.out _ _ (fun _ => ⟨(show Lw X0 v79 B ⟨k, m, g, x, r⟩ ⟨l, n, h, y, s⟩ from L80).a, (show Lw X0 v79 B ⟨k, m, g, x, r⟩ ⟨l, n, h, y, s⟩ from L80).b⟩) ?_
            clear hK K
            try simp only [Act.put, List.setIfInBounds_toArray, List.set_cons_zero, List.set_cons_succ]
            obtain ⟨r0, r1, r2, r3, r4, r5, rz⟩ := (show Rv v79 Z62 from R61nn)
            refine AnyL.oneAt 7 rfl (by kernel_rfl) rfl ?_
            intro K hK
            go_simp
            refine hK.out _ _ (fun h => absurd rfl h) ?_
            clear hK K
            try simp only [Act.put, List.setIfInBounds_toArray, List.set_cons_zero, List.set_cons_succ]
            refine AnyL.done (by kernel_rfl) ?_
            have hF := fin_set (show Lw X0 v79 B ⟨k, m, g, x, r⟩ ⟨l, n, h, y, s⟩ from L80) (show Rv v79 Z62 from R61nn) (show X0.heap.size ≤ Z62 from zZ62) (show B + 1 < X0.heap.size from ZB1) (show Vc X0 B ⟨k, m, g, x, r⟩ from VA1) (show Vc X0 (B + 1) ⟨l, n, h, y, s⟩ from VB1) c1 uk1 um1 ug1 ux1 ur1
            obtain ⟨X1, hX⟩ : ∃ X, X = s6 v79 Z62 c1 uk1 um1 ug1 ux1 ur1 := ⟨_, rfl⟩
            rw [← hX] at hF
            have hX' := hX
            unfold s6 at hX'
            rw [← hX']
            clear hX hX' r0 r1 r2 r3 r4 r5 rz L80 R61nn zZ62
            have LX1 : Hid (Lw X0 X1 B ⟨k, m, g, x, r⟩ ⟨l, n, h, y, s⟩) := hF.1
            have AX1 : Hid (Ac X1 Z62 c1 ⟨uk1, um1, ug1, ux1, ur1⟩) := hF.2
            clear hF
            obtain ⟨e0, e1, e2, e3, e4, e5⟩ := (show Ac X0 Z12 c0 ⟨uk0, um0, ug0, ux0, ur0⟩ from AX0).kq (Lw.kq LX1)
            obtain ⟨f0, f1, f2, f3, f4, f5⟩ := (show Ac X1 Z62 c1 ⟨uk1, um1, ug1, ux1, ur1⟩ from AX1)
            go_wp2_with fail
            refine (HEQ' _ _ ⟨uk1, um1, ug1, ux1, ur1⟩ ⟨uk0, um0, ug0, ux0, ur0⟩ HU1 HU0 _).mono ?_
            rintro e w8 ⟨rfl, g8⟩
            have GF : Hid (Kq w w8) := Kq.trans (Kq.trans K2 (Lw.kq LX0)) (Kq.trans (Lw.kq LX1) (.of_grown g8))
            clear g8 e0 e1 e2 e3 e4 e5 f0 f1 f2 f3 f4 f5
            go_wp2_with fail
            go_ret
            exact ⟨rfl, GF⟩
        · intro K hK
          go_simp
          obtain ⟨Z58, hZ⟩ : ∃ Z, Z = (V1 : World).heap.size := ⟨_, rfl⟩
          obtain ⟨v81, hW⟩ : ∃ Wn, Wn = (V1 : World).alloc (.cells #[.int .i64 0, .int .i64 0, .int .i64 0, .float .f64 0, .string ⟨#[]⟩, .int .i64 0] 28) := ⟨_, rfl⟩
          have L82 : Hid (Lw X0 v81 B ⟨k, m, g, x, r⟩ ⟨l, n, h, y, s⟩) := Lw.step LD (by rw [hW]; exact .of_grown (Grown.alloc (Grown.refl _) _ _))
          have R57 : Hid (Rv v81 Z58) := by rw [hW, hZ]; exact Rv.new _ _
          have zZ58 : Hid (X0.heap.size ≤ Z58) := by rw [hZ]; exact (show Lw X0 V1 B ⟨k, m, g, x, r⟩ ⟨l, n, h, y, s⟩ from LD).kq.size
          rw [← hW, ← hZ]
          clear hW hZ LD
          refine hK.out _ _ (fun _ => ⟨(show Lw X0 v81 B ⟨k, m, g, x, r⟩ ⟨l, n, h, y, s⟩ from L82).a, (show Lw X0 v81 B ⟨k, m, g, x, r⟩ ⟨l, n, h, y, s⟩ from L82).b⟩) ?_
          clear hK K
          try simp only [Act.put, List.setIfInBounds_toArray, List.set_cons_zero, List.set_cons_succ]
          refine AnyL.oneAt 2 rfl (by kernel_rfl) rfl ?_
          intro K hK
          go_simp
          refine (HTA' _).mono ?_
          rintro e v83 ⟨rfl, gg⟩
          have gk : Kq _ v83 := .of_grown gg
          clear gg
          have L84 : Hid (Lw X0 v83 B ⟨k, m, g, x, r⟩ ⟨l, n, h, y, s⟩) := Lw.step L82 gk
          have R57n : Hid (Rv v83 Z58) := Rv.kq R57 gk
          clear R57
          clear gk L82
          refine hK.out _ _ (fun _ => ⟨(show Lw X0 v83 B ⟨k, m, g, x, r⟩ ⟨l, n, h, y, s⟩ from L84).a, (show Lw X0 v83 B ⟨k, m, g, x, r⟩ ⟨l, n, h, y, s⟩ from L84).b⟩) ?_
          clear hK K
          try simp only [Act.put, List.setIfInBounds_toArray, List.set_cons_zero, List.set_cons_succ]
          refine AnyL.oneAt 4 rfl (by kernel_rfl) rfl ?_
          intro K hK
          go_simp
          refine (HTB' _).mono ?_
          rintro e v85 ⟨rfl, gg⟩
          have gk : Kq _ v85 := .of_grown gg
          clear gg
          have L86 : Hid (Lw X0 v85 B ⟨k, m, g, x, r⟩ ⟨l, n, h, y, s⟩) := Lw.step L84 gk
          have R57nn : Hid (Rv v85 Z58) := Rv.kq R57n gk
          clear R57n
          clear gk L84
          refine hK.out _ _ (fun _ => ⟨(show Lw X0 v85 B ⟨k, m, g, x, r⟩ ⟨l, n, h, y, s⟩ from L86).a, (show Lw X0 v85 B ⟨k, m, g, x, r⟩ ⟨l, n, h, y, s⟩ from L86).b⟩) ?_
          clear hK K
          try simp only [Act.put, List.setIfInBounds_toArray, List.set_cons_zero, List.set_cons_succ]
          refine AnyL.oneAt 5 rfl (by kernel_rfl) rfl ?_
          intro K hK
          go_simp
          refine (HI' _ (Tb.kq HT9 (Lw.kq L86))).mono ?_
          rintro e v87 ⟨⟨c1, ⟨uk1, um1, ug1, ux1, ur1⟩, rfl, hu⟩, gk⟩
          dsimp only
          have HU1 : Hid (A.is c1 ⟨uk1, um1, ug1, ux1, ur1⟩) := hu
          clear hu
          have L88 : Hid (Lw X0 v87 B ⟨k, m, g, x, r⟩ ⟨l, n, h, y, s⟩) := Lw.step L86 gk
          have R57nnn : Hid (Rv v87 Z58) := Rv.kq R57nn gk
          clear R57nn
          clear gk L86
          refine hK.out _ _ (fun _ => ⟨(show Lw X0 v87 B ⟨k, m, g, x, r⟩ ⟨l, n, h, y, s⟩ from L88).a, (show Lw X0 v87 B ⟨k, m, g, x, r⟩ ⟨l, n, h, y, s⟩ from L88).b⟩) ?_
          clear hK K
          try simp only [Act.put, List.setIfInBounds_toArray, List.set_cons_zero, List.set_cons_succ]
          obtain ⟨r0, r1, r2, r3, r4, r5, rz⟩ := (show Rv v87 Z58 from R57nnn)
          refine AnyL.oneAt 7 rfl (by kernel_rfl) rfl ?_
          intro K hK
          go_simp
          refine hK.out _ _ (fun h => absurd rfl h) ?_
          clear hK K
          try simp only [Act.put, List.setIfInBounds_toArray, List.set_cons_zero, List.set_cons_succ]
          refine AnyL.done (by kernel_rfl) ?_
          have hF := fin_set (show Lw X0 v87 B ⟨k, m, g, x, r⟩ ⟨l, n, h, y, s⟩ from L88) (show Rv v87 Z58 from R57nnn) (show X0.heap.size ≤ Z58 from zZ58) (show B + 1 < X0.heap.size from ZB1) (show Vc X0 B ⟨k, m, g, x, r⟩ from VA1) (show Vc X0 (B + 1) ⟨l, n, h, y, s⟩ from VB1) c1 uk1 um1 ug1 ux1 ur1
          obtain ⟨X1, hX⟩ : ∃ X, X = s6 v87 Z58 c1 uk1 um1 ug1 ux1 ur1 := ⟨_, rfl⟩
          rw [← hX] at hF
          have hX' := hX
          unfold s6 at hX'
          rw [← hX']
          clear hX hX' r0 r1 r2 r3 r4 r5 rz L88 R57nnn zZ58
          have LX1 : Hid (Lw X0 X1 B ⟨k, m, g, x, r⟩ ⟨l, n, h, y, s⟩) := hF.1
          have AX1 : Hid (Ac X1 Z58 c1 ⟨uk1, um1, ug1, ux1, ur1⟩) := hF.2
          clear hF
          obtain ⟨e0, e1, e2, e3, e4, e5⟩ := (show Ac X0 Z12 c0 ⟨uk0, um0, ug0, ux0, ur0⟩ from AX0).kq (Lw.kq LX1)
          obtain ⟨f0, f1, f2, f3, f4, f5⟩ := (show Ac X1 Z58 c1 ⟨uk1, um1, ug1, ux1, ur1⟩ from AX1)
          go_wp2_with fail
          refine (HEQ' _ _ ⟨uk1, um1, ug1, ux1, ur1⟩ ⟨uk0, um0, ug0, ux0, ur0⟩ HU1 HU0 _).mono ?_
          rintro e w8 ⟨rfl, g8⟩
          have GF : Hid (Kq w w8) := Kq.trans (Kq.trans K2 (Lw.kq LX0)) (Kq.trans (Lw.kq LX1) (.of_grown g8))
          clear g8 e0 e1 e2 e3 e4 e5 f0 f1 f2 f3 f4 f5
          go_wp2_with fail
          go_ret
          exact ⟨rfl, GF⟩
    · intro K hK
      go_simp
      obtain ⟨Z8, hZ⟩ : ∃ Z, Z = (v1 : World).heap.size := ⟨_, rfl⟩
      obtain ⟨v89, hW⟩ : ∃ Wn, Wn = (v1 : World).alloc (.cells #[.int .i64 0, .int .i64 0, .int .i64 0, .float .f64 0, .string ⟨#[]⟩, .int .i64 0] 28) := ⟨_, rfl⟩
      have L90 : Hid (Lw w2 v89 B ⟨k, m, g, x, r⟩ ⟨l, n, h, y, s⟩) := Lw.step L2 (by rw [hW]; exact .of_grown (Grown.alloc (Grown.refl _) _ _))
      have R7 : Hid (Rv v89 Z8) := by rw [hW, hZ]; exact Rv.new _ _
      have zZ8 : Hid (w2.heap.size ≤ Z8) := by rw [hZ]; exact (show Lw w2 v1 B ⟨k, m, g, x, r⟩ ⟨l, n, h, y, s⟩ from L2).kq.size
      rw [← hW, ← hZ]
      clear hW hZ L2
      refine hK.out _ _ (fun _ => ⟨(show Lw w2 v89 B ⟨k, m, g, x, r⟩ ⟨l, n, h, y, s⟩ from L90).a, (show Lw w2 v89 B ⟨k, m, g, x, r⟩ ⟨l, n, h, y, s⟩ from L90).b⟩) ?_
      clear hK K
      try simp only [Act.put, List.setIfInBounds_toArray, List.set_cons_zero, List.set_cons_succ]
      refine AnyL.oneAt 4 rfl (by kernel_rfl) rfl ?_
      intro K hK
      go_simp
      refine (HTB' _).mono ?_
      rintro e v91 ⟨rfl, gg⟩
      have gk : Kq _ v91 := .of_grown gg
      clear gg
      have L92 : Hid (Lw w2 v91 B ⟨k, m, g, x, r⟩ ⟨l, n, h, y, s⟩) := Lw.step L90 gk
      have R7n : Hid (Rv v91 Z8) := Rv.kq R7 gk
      clear R7
      clear gk L90
      refine hK.out _ _ (fun _ => ⟨(show Lw w2 v91 B ⟨k, m, g, x, r⟩ ⟨l, n, h, y, s⟩ from L92).a, (show Lw w2 v91 B ⟨k, m, g, x, r⟩ ⟨l, n, h, y, s⟩ from L92).b⟩) ?_
      clear hK K
      try simp only [Act.put, List.setIfInBounds_toArray, List.set_cons_zero, List.set_cons_succ]
      refine AnyL.oneAt 5 rfl (by kernel_rfl) rfl ?_
      intro K hK
      go_simp
      refine (HO' _).mono ?_
      rintro e v93 ⟨⟨c0, ⟨uk0, um0, ug0, ux0, ur0⟩, rfl, hu⟩, gk⟩
      dsimp only
      have HU0 : Hid (A.is c0 ⟨uk0, um0, ug0, ux0, ur0⟩) := hu
      clear hu
      have L94 : Hid (Lw w2 v93 B ⟨k, m, g, x, r⟩ ⟨l, n, h, y, s⟩) := Lw.step L92 gk
      have R7nn : Hid (Rv v93 Z8) := Rv.kq R7n gk
      clear R7n
      clear gk L92
      refine hK.out _ _ (fun _ => ⟨(show Lw w2 v93 B ⟨k, m, g, x, r⟩ ⟨l, n, h, y, s⟩ from L94).a, (show Lw w2 v93 B ⟨k, m, g, x, r⟩ ⟨l, n, h, y, s⟩ from L94).b⟩) ?_
      clear hK K
      try simp only [Act.put, List.setIfInBounds_toArray, List.set_cons_zero, List.set_cons_succ]
      obtain ⟨r0, r1, r2, r3, r4, r5, rz⟩ := (show Rv v93 Z8 from R7nn)
      refine AnyL.oneAt 7 rfl (by kernel_rfl) rfl ?_
      intro K hK
      go_simp
      refine hK.out _ _ (fun h => absurd rfl h) ?_
      clear hK K
      try simp only [Act.put, List.setIfInBounds_toArray, List.set_cons_zero, List.set_cons_succ]
      refine AnyL.done (by kernel_rfl) ?_
      have hF := fin_set (show Lw w2 v93 B ⟨k, m, g, x, r⟩ ⟨l, n, h, y, s⟩ from L94) (show Rv v93 Z8 from R7nn) (show w2.heap.size ≤ Z8 from zZ8) (show B + 1 < w2.heap.size from ZB0) (show Vc w2 B ⟨k, m, g, x, r⟩ from VA0) (show Vc w2 (B + 1) ⟨l, n, h, y, s⟩ from VB0) c0 uk0 um0 ug0 ux0 ur0
      obtain ⟨X0, hX⟩ : ∃ X, X = s6 v93 Z8 c0 uk0 um0 ug0 ux0 ur0 := ⟨_, rfl⟩
      rw [← hX] at hF
      have hX' := hX
      unfold s6 at hX'
      rw [← hX']
      clear hX hX' r0 r1 r2 r3 r4 r5 rz L94 R7nn zZ8
      have LX0 : Hid (Lw w2 X0 B ⟨k, m, g, x, r⟩ ⟨l, n, h, y, s⟩) := hF.1
      have AX0 : Hid (Ac X0 Z8 c0 ⟨uk0, um0, ug0, ux0, ur0⟩) := hF.2
      clear hF
      have ZB1 : Hid (B + 1 < X0.heap.size) := lt_of_cell (Vc.c0 (Lw.b LX0))
      have VA1 : Hid (Vc X0 B ⟨k, m, g, x, r⟩) := Lw.a LX0
      have VB1 : Hid (Vc X0 (B + 1) ⟨l, n, h, y, s⟩) := Lw.b LX0
      have L9 : Hid (Lw X0 X0 B ⟨k, m, g, x, r⟩ ⟨l, n, h, y, s⟩) := ⟨Kq.refl _, VA1, VB1⟩
      have HT9 : Hid (Tb X0) := Tb.kq HT2 (Lw.kq LX0)
      go_wp2_with fail
      refine AnyL.region (S := (fun W' : World => Vc W' B ⟨k, m, g, x, r⟩ ∧ Vc W' (B + 1) ⟨l, n, h, y, s⟩)) (z := 7) (by kernel_rfl) ?_
      obtain ⟨V1, hVd⟩ : ∃ V, V = X0.drew := ⟨_, rfl⟩
      rw [← hVd]
      have LD : Hid (Lw X0 V1 B ⟨k, m, g, x, r⟩ ⟨l, n, h, y, s⟩) := by rw [hVd]; exact Lw.step L9 (Kq.drew (Kq.refl _))
      have hS0 : (fun W' : World => Vc W' B ⟨k, m, g, x, r⟩ ∧ Vc W' (B + 1) ⟨l, n, h, y, s⟩) V1 := ⟨(show Lw X0 V1 B ⟨k, m, g, x, r⟩ ⟨l, n, h, y, s⟩ from LD).a, (show Lw X0 V1 B ⟨k, m, g, x, r⟩ ⟨l, n, h, y, s⟩ from LD).b⟩
      clear hVd
      refine AnyL.takeAt 0 (.int .i64 op) rfl (by kernel_rfl) (by kernel_rfl) (by kernel_rfl) (by kernel_rfl) (fun _ _ _ h => h) rfl hS0 (by intro W hW; obtain ⟨⟨q0, q1, q2, q3, q4⟩, ⟨p0, p1, p2, p3, p4⟩⟩ := hW; go_simp) ?_
      try simp only [Act.put, List.setIfInBounds_toArray, List.set_cons_zero, List.set_cons_succ]
      refine AnyL.takeAt 1 (.agg #[.int .i64 k, .int .i64 m, .float .f64 g, .string x, .int .i64 r]) rfl (by kernel_rfl) (by kernel_rfl) (by kernel_rfl) (by kernel_rfl) (fun _ _ _ h => h) rfl hS0 (by intro W hW; obtain ⟨⟨q0, q1, q2, q3, q4⟩, ⟨p0, p1, p2, p3, p4⟩⟩ := hW; go_simp) ?_
      try simp only [Act.put, List.setIfInBounds_toArray, List.set_cons_zero, List.set_cons_succ]
      refine AnyL.takeAt 3 (.agg #[.int .i64 l, .int .i64 n, .float .f64 h, .string y, .int .i64 s]) rfl (by kernel_rfl) (by kernel_rfl) (by kernel_rfl) (by kernel_rfl) (fun _ _ _ h => h) rfl hS0 (by intro W hW; obtain ⟨⟨q0, q1, q2, q3, q4⟩, ⟨p0, p1, p2, p3, p4⟩⟩ := hW; go_simp) ?_
      try simp only [Act.put, List.setIfInBounds_toArray, List.set_cons_zero, List.set_cons_succ]
      clear hS0
      refine AnyL.two 2 6 rfl rfl (by kernel_rfl) rfl rfl ?_ ?_
      · intro K hK
        go_simp
        refine (HTA' _).mono ?_
        rintro e v95 ⟨rfl, gg⟩
        have gk : Kq _ v95 := .of_grown gg
        clear gg
        have L96 : Hid (Lw X0 v95 B ⟨k, m, g, x, r⟩ ⟨l, n, h, y, s⟩) := Lw.step LD gk
        clear gk LD
        refine hK.out _ _ (fun _ => ⟨(show Lw X0 v95 B ⟨k, m, g, x, r⟩ ⟨l, n, h, y, s⟩ from L96).a, (show Lw X0 v95 B ⟨k, m, g, x, r⟩ ⟨l, n, h, y, s⟩ from L96).b⟩) ?_
        clear hK K
        try simp only [Act.put, List.setIfInBounds_toArray, List.set_cons_zero, List.set_cons_succ]
        refine AnyL.two 4 6 rfl rfl (by kernel_rfl) rfl rfl ?_ ?_
        · intro K hK
          go_simp
          refine (HTB' _).mono ?_
          rintro e v99 ⟨rfl, gg⟩
          have gk : Kq _ v99 := .of_grown gg
          clear gg
          have L100 : Hid (Lw X0 v99 B ⟨k, m, g, x, r⟩ ⟨l, n, h, y, s⟩) := Lw.step L96 gk
          clear gk L96
          refine hK.out _ _ (fun _ => ⟨(show Lw X0 v99 B ⟨k, m, g, x, r⟩ ⟨l, n, h, y, s⟩ from L100).a, (show Lw X0 v99 B ⟨k, m, g, x, r⟩ ⟨l, n, h, y, s⟩ from L100).b⟩) ?_
          clear hK K
          try simp only [Act.put, List.setIfInBounds_toArray, List.set_cons_zero, List.set_cons_succ]
          refine AnyL.two 5 6 rfl rfl (by kernel_rfl) rfl rfl ?_ ?_
          · intro K hK
            go_simp
            refine (HI' _ (Tb.kq HT9 (Lw.kq L100))).mono ?_
            rintro e v103 ⟨⟨c1, ⟨uk1, um1, ug1, ux1, ur1⟩, rfl, hu⟩, gk⟩
            dsimp only
            have HU1 : Hid (A.is c1 ⟨uk1, um1, ug1, ux1, ur1⟩) := hu
            clear hu
            have L104 : Hid (Lw X0 v103 B ⟨k, m, g, x, r⟩ ⟨l, n, h, y, s⟩) := Lw.step L100 gk
            clear gk L100
            refine hK.out _ _ (fun _ => ⟨(show Lw X0 v103 B ⟨k, m, g, x, r⟩ ⟨l, n, h, y, s⟩ from L104).a, (show Lw X0 v103 B ⟨k, m, g, x, r⟩ ⟨l, n, h, y, s⟩ from L104).b⟩) ?_
            clear hK K
            try simp only [Act.put, List.setIfInBounds_toArray, List.set_cons_zero, List.set_cons_succ]
            refine AnyL.oneAt 6 rfl (by kernel_rfl) rfl ?_
            intro K hK
            go_simp
            obtain ⟨Z110, hZ⟩ : ∃ Z, Z = (v103 : World).heap.size := ⟨_, rfl⟩
            obtain ⟨v107, hW⟩ : ∃ Wn, Wn = (v103 : World).alloc (.cells #[.int .i64 0, .int .i64 0, .int .i64 0, .float .f64 0, .string ⟨#[]⟩, .int .i64 0] 28) := ⟨_, rfl⟩
            have L108 : Hid (Lw X0 v107 B ⟨k, m, g, x, r⟩ ⟨l, n, h, y, s⟩) := Lw.step L104 (by rw [hW]; exact .of_grown (Grown.alloc (Grown.refl _) _ _))
            have R109 : Hid (Rv v107 Z110) := by rw [hW, hZ]; exact Rv.new _ _
            have zZ110 : Hid (X0.heap.size ≤ Z110) := by rw [hZ]; exact (show Lw X0 v103 B ⟨k, m, g, x, r⟩ ⟨l, n, h, y, s⟩ from L104).kq.size
            rw [← hW, ← hZ]
            clear hW hZ L104
            refine hK.out _ _ (fun _ => ⟨(show Lw X0 v107 B ⟨k, m, g, x, r⟩ ⟨l, n, h, y, s⟩ from L108).a, (show Lw X0 v107 B ⟨k, m, g, x, r⟩ ⟨l, n, h, y, s⟩ from L108).b⟩) ?_
            clear hK K
            try simp only [Act.put, List.setIfInBounds_toArray, List.set_cons_zero, List.set_cons_succ]
            obtain ⟨r0, r1, r2, r3, r4, r5, rz⟩ := (show Rv v107 Z110 from R109)
            refine AnyL.oneAt 7 rfl (by kernel_rfl) rfl ?_
            intro K hK
            go_simp
            refine hK.out _ _ (fun h => absurd rfl h) ?_
            clear hK K
            try simp only [Act.put, List.setIfInBounds_toArray, List.set_cons_zero, List.set_cons_succ]
            refine AnyL.done (by kernel_rfl) ?_
            have hF := fin_set (show Lw X0 v107 B ⟨k, m, g, x, r⟩ ⟨l, n, h, y, s⟩ from L108) (show Rv v107 Z110 from R109) (show X0.heap.size ≤ Z110 from zZ110) (show B + 1 < X0.heap.size from ZB1) (show Vc X0 B ⟨k, m, g, x, r⟩ from VA1) (show Vc X0 (B + 1) ⟨l, n, h, y, s⟩ from VB1) c1 uk1 um1 ug1 ux1 ur1
            obtain ⟨X1, hX⟩ : ∃ X, X = s6 v107 Z110 c1 uk1 um1 ug1 ux1 ur1 := ⟨_, rfl⟩
            rw [← hX] at hF
            have hX' := hX
            unfold s6 at hX'
            rw [← hX']
            clear hX hX' r0 r1 r2 r3 r4 r5 rz L108 R109 zZ110
            have LX1 : Hid (Lw X0 X1 B ⟨k, m, g, x, r⟩ ⟨l, n, h, y, s⟩) := hF.1
            have AX1 : Hid (Ac X1 Z110 c1 ⟨uk1, um1, ug1, ux1, ur1⟩) := hF.2
            clear hF
            obtain ⟨e0, e1, e2, e3, e4, e5⟩ := (show Ac X0 Z8 c0 ⟨uk0, um0, ug0, ux0, ur0⟩ from AX0).kq (Lw.kq LX1)
            obtain ⟨f0, f1, f2, f3, f4, f5⟩ := (show Ac X1 Z110 c1 ⟨uk1, um1, ug1, ux1, ur1⟩ from AX1)
            go_wp2_with fail
            refine (HEQ' _ _ ⟨uk1, um1, ug1, ux1, ur1⟩ ⟨uk0, um0, ug0, ux0, ur0⟩ HU1 HU0 _).mono ?_
            rintro e w8 ⟨rfl, g8⟩
            have GF : Hid (Kq w w8) := Kq.trans (Kq.trans K2 (Lw.kq LX0)) (Kq.trans (Lw.kq LX1) (.of_grown g8))
            clear g8 e0 e1 e2 e3 e4 e5 f0 f1 f2 f3 f4 f5
            go_wp2_with fail
            go_ret
            exact ⟨rfl, GF⟩
          · intro K hK
            go_simp
            obtain ⟨Z106, hZ⟩ : ∃ Z, Z = (v99 : World).heap.size := ⟨_, rfl⟩
            obtain ⟨v111, hW⟩ : ∃ Wn, Wn = (v99 : World).alloc (.cells #[.int .i64 0, .int .i64 0, .int .i64 0, .float .f64 0, .string ⟨#[]⟩, .int .i64 0] 28) := ⟨_, rfl⟩
            have L112 : Hid (Lw X0 v111 B ⟨k, m, g, x, r⟩ ⟨l, n, h, y, s⟩) := Lw.step L100 (by rw [hW]; exact .of_grown (Grown.alloc (Grown.refl _) _ _))
            have R105 : Hid (Rv v111 Z106) := by rw [hW, hZ]; exact Rv.new _ _
            have zZ106 : Hid (X0.heap.size ≤ Z106) := by rw [hZ]; exact (show Lw X0 v99 B ⟨k, m, g, x, r⟩ ⟨l, n, h, y, s⟩ from L100).kq.size
            rw [← hW, ← hZ]
            clear hW hZ L100
            refine hK.out _ _ (fun _ => ⟨(show Lw X0 v111 B ⟨k, m, g, x, r⟩ ⟨l, n, h, y, s⟩ from L112).a, (show Lw X0 v111 B ⟨k, m, g, x, r⟩ ⟨l, n, h, y, s⟩ from L112).b⟩) ?_
            clear hK K
            try simp only [Act.put, List.setIfInBounds_toArray, List.set_cons_zero, List.set_cons_succ]
            refine AnyL.oneAt 5 rfl (by kernel_rfl) rfl ?_
            intro K hK
            go_simp
            refine (HI' _ (Tb.kq HT9 (Lw.kq L112))).mono ?_
            rintro e v113 ⟨⟨c1, ⟨uk1, um1, ug1, ux1, ur1⟩, rfl, hu⟩, gk⟩
            dsimp only
            have HU1 : Hid (A.is c1 ⟨uk1, um1, ug1, ux1, ur1⟩) := hu
            clear hu
            have L114 : Hid (Lw X0 v113 B ⟨k, m, g, x, r⟩ ⟨l, n, h, y, s⟩) := Lw.step L112 gk
            have R105n : Hid (Rv v113 Z106) := Rv.kq R105 gk
            clear R105
            clear gk L112
            refine hK.out _ _ (fun _ => ⟨(show Lw X0 v113 B ⟨k, m, g, x, r⟩ ⟨l, n, h, y, s⟩ from L114).a, (show Lw X0 v113 B ⟨k, m, g, x, r⟩ ⟨l, n, h, y, s⟩ from L114).b⟩) ?_
            clear hK K
            try simp only [Act.put, List.setIfInBounds_toArray, List.set_cons_zero, List.set_cons_succ]
            obtain ⟨r0, r1, r2, r3, r4, r5, rz⟩ := (show Rv v113 Z106 from R105n)
            refine AnyL.oneAt 7 rfl (by kernel_rfl) rfl ?_
            intro K hK
            go_simp
            refine hK.out _ _ (fun h => absurd rfl h) ?_
            clear hK K
            try simp only [Act.put, List.setIfInBounds_toArray, List.set_cons_zero, List.set_cons_succ]
            refine AnyL.done (by kernel_rfl) ?_
            have hF := fin_set (show Lw X0 v113 B ⟨k, m, g, x, r⟩ ⟨l, n, h, y, s⟩ from L114) (show Rv v113 Z106 from R105n) (show X0.heap.size ≤ Z106 from zZ106) (show B + 1 < X0.heap.size from ZB1) (show Vc X0 B ⟨k, m, g, x, r⟩ from VA1) (show Vc X0 (B + 1) ⟨l, n, h, y, s⟩ from VB1) c1 uk1 um1 ug1 ux1 ur1
            obtain ⟨X1, hX⟩ : ∃ X, X = s6 v113 Z106 c1 uk1 um1 ug1 ux1 ur1 := ⟨_, rfl⟩
            rw [← hX] at hF
            have hX' := hX
            unfold s6 at hX'
            rw [← hX']
            clear hX hX' r0 r1 r2 r3 r4 r5 rz L114 R105n zZ106
            have LX1 : Hid (Lw X0 X1 B ⟨k, m, g, x, r⟩ ⟨l, n, h, y, s⟩) := hF.1
            have AX1 : Hid (Ac X1 Z106 c1 ⟨uk1, um1, ug1, ux1, ur1⟩) := hF.2
            clear hF
            obtain ⟨e0, e1, e2, e3, e4, e5⟩ := (show Ac X0 Z8 c0 ⟨uk0, um0, ug0, ux0, ur0⟩ from AX0).kq (Lw.kq LX1)
            obtain ⟨f0, f1, f2, f3, f4, f5⟩ := (show Ac X1 Z106 c1 ⟨uk1, um1, ug1, ux1, ur1⟩ from AX1)
            go_wp2_with fail
            refine (HEQ' _ _ ⟨uk1, um1, ug1, ux1, ur1⟩ ⟨uk0, um0, ug0, ux0, ur0⟩ HU1 HU0 _).mono ?_
            rintro e w8 ⟨rfl, g8⟩
            have GF : Hid (Kq w w8) := Kq.trans (Kq.trans K2 (Lw.kq LX0)) (Kq.trans (Lw.kq LX1) (.of_grown g8))
            clear g8 e0 e1 e2 e3 e4 e5 f0 f1 f2 f3 f4 f5
            go_wp2_with fail
            go_ret
            exact ⟨rfl, GF⟩
        · intro K hK
          go_simp
          obtain ⟨Z102, hZ⟩ : ∃ Z, Z = (v95 : World).heap.size := ⟨_, rfl⟩
          obtain ⟨v115, hW⟩ : ∃ Wn, Wn = (v95 : World).alloc (.cells #[.int .i64 0, .int .i64 0, .int .i64 0, .float .f64 0, .string ⟨#[]⟩, .int .i64 0] 28) := ⟨_, rfl⟩
          have L116 : Hid (Lw X0 v115 B ⟨k, m, g, x, r⟩ ⟨l, n, h, y, s⟩) := Lw.step L96 (by rw [hW]; exact .of_grown (Grown.alloc (Grown.refl _) _ _))
          have R101 : Hid (Rv v115 Z102) := by rw [hW, hZ]; exact Rv.new _ _
          have zZ102 : Hid (X0.heap.size ≤ Z102) := by rw [hZ]; exact (show Lw X0 v95 B ⟨k, m, g, x, r⟩ ⟨l, n, h, y, s⟩ from L96).kq.size
          rw [← hW, ← hZ]
          clear hW hZ L96
          refine hK.out _ _ (fun _ => ⟨(show Lw X0 v115 B ⟨k, m, g, x, r⟩ ⟨l, n, h, y, s⟩ from L116).a, (show Lw X0 v115 B ⟨k, m, g, x, r⟩ ⟨l, n, h, y, s⟩ from L116).b⟩) ?_
          clear hK K
          try simp only [Act.put, List.setIfInBounds_toArray, List.set_cons_zero, List.set_cons_succ]
          refine AnyL.oneAt 4 rfl (by kernel_rfl) rfl ?_
          intro K hK
          go_simp
          refine (HTB' _).mono ?_
          rintro e v117 ⟨rfl, gg⟩
          have gk : Kq _ v117 := .of_grown gg
          clear gg
          have L118 : Hid (Lw X0 v117 B ⟨k, m, g, x, r⟩ ⟨l, n, h, y, s⟩) := Lw.step L116 gk
          have R101n : Hid (Rv v117 Z102) := Rv.kq R101 gk
          clear R101
          clear gk L116
          refine hK.out _ _ (fun _ => ⟨(show Lw X0 v117 B ⟨k, m, g, x, r⟩ ⟨l, n, h, y, s⟩ from L118).a, (show Lw X0 v117 B ⟨k, m, g, x, r⟩ ⟨l, n, h, y, s⟩ from L118).b⟩) ?_
          clear hK K
          try simp only [Act.put, List.setIfInBounds_toArray, List.set_cons_zero, List.set_cons_succ]
          refine AnyL.oneAt 5 rfl (by kernel_rfl) rfl ?_
          intro K hK
          go_simp
          refine (HI' _ (Tb.kq HT9 (Lw.kq L118))).mono ?_
          rintro e v119 ⟨⟨c1, ⟨uk1, um1, ug1, ux1, ur1⟩, rfl, hu⟩, gk⟩
          dsimp only
          have HU1 : Hid (A.is c1 ⟨uk1, um1, ug1, ux1, ur1⟩) := hu
          clear hu
          have L120 : Hid (Lw X0 v119 B ⟨k, m, g, x, r⟩ ⟨l, n, h, y, s⟩) := Lw.step L118 gk
          have R101nn : Hid (Rv v119 Z102) := Rv.kq R101n gk
          clear R101n
          clear gk L118
          refine hK.out _ _ (fun _ => ⟨(show Lw X0 v119 B ⟨k, m, g, x, r⟩ ⟨l, n, h, y, s⟩ from L120).a, (show Lw X0 v119 B ⟨k, m, g, x, r⟩ ⟨l, n, h, y, s⟩ from L120).b⟩) ?_
          clear hK K
          try simp only [Act.put, List.setIfInBounds_toArray, List.set_cons_zero, List.set_cons_succ]
          obtain ⟨r0, r1, r2, r3, r4, r5, rz⟩ := (show Rv v119 Z102 from R101nn)
          refine AnyL.oneAt 7 rfl (by kernel_rfl) rfl ?_
          intro K hK
          go_simp
          refine hK.out _ _ (fun h => absurd rfl h) ?_
          clear hK K
          try simp only [Act.put, List.setIfInBounds_toArray, List.set_cons_zero, List.set_cons_succ]
          refine AnyL.done (by kernel_rfl) ?_
          have hF := fin_set (show Lw X0 v119 B ⟨k, m, g, x, r⟩ ⟨l, n, h, y, s⟩ from L120) (show Rv v119 Z102 from R101nn) (show X0.heap.size ≤ Z102 from zZ102) (show B + 1 < X0.heap.size from ZB1) (show Vc X0 B ⟨k, m, g, x, r⟩ from VA1) (show Vc X0 (B + 1) ⟨l, n, h, y, s⟩ from VB1) c1 uk1 um1 ug1 ux1 ur1
          obtain ⟨X1, hX⟩ : ∃ X, X = s6 v119 Z102 c1 uk1 um1 ug1 ux1 ur1 := ⟨_, rfl⟩
          rw [← hX] at hF
          have hX' := hX
          unfold s6 at hX'
          rw [← hX']
          clear hX hX' r0 r1 r2 r3 r4 r5 rz L120 R101nn zZ102
          have LX1 : Hid (Lw X0 X1 B ⟨k, m, g, x, r⟩ ⟨l, n, h, y, s⟩) := hF.1
          have AX1 : Hid (Ac X1 Z102 c1 ⟨uk1, um1, ug1, ux1, ur1⟩) := hF.2
          clear hF
          obtain ⟨e0, e1, e2, e3, e4, e5⟩ := (show Ac X0 Z8 c0 ⟨uk0, um0, ug0, ux0, ur0⟩ from AX0).kq (Lw.kq LX1)
          obtain ⟨f0, f1, f2, f3, f4, f5⟩ := (show Ac X1 Z102 c1 ⟨uk1, um1, ug1, ux1, ur1⟩ from AX1)
          go_wp2_with fail
          refine (HEQ' _ _ ⟨uk1, um1, ug1, ux1, ur1⟩ ⟨uk0, um0, ug0, ux0, ur0⟩ HU1 HU0 _).mono ?_
          rintro e w8 ⟨rfl, g8⟩
          have GF : Hid (Kq w w8) := Kq.trans (Kq.trans K2 (Lw.kq LX0)) (Kq.trans (Lw.kq LX1) (.of_grown g8))
          clear g8 e0 e1 e2 e3 e4 e5 f0 f1 f2 f3 f4 f5
          go_wp2_with fail
          go_ret
          exact ⟨rfl, GF⟩
      · intro K hK
        go_simp
        obtain ⟨Z98, hZ⟩ : ∃ Z, Z = (V1 : World).heap.size := ⟨_, rfl⟩
        obtain ⟨v121, hW⟩ : ∃ Wn, Wn = (V1 : World).alloc (.cells #[.int .i64 0, .int .i64 0, .int .i64 0, .float .f64 0, .string ⟨#[]⟩, .int .i64 0] 28) := ⟨_, rfl⟩
        have L122 : Hid (Lw X0 v121 B ⟨k, m, g, x, r⟩ ⟨l, n, h, y, s⟩) := Lw.step LD (by rw [hW]; exact .of_grown (Grown.alloc (Grown.refl _) _ _))
        have R97 : Hid (Rv v121 Z98) := by rw [hW, hZ]; exact Rv.new _ _
        have zZ98 : Hid (X0.heap.size ≤ Z98) := by rw [hZ]; exact (show Lw X0 V1 B ⟨k, m, g, x, r⟩ ⟨l, n, h, y, s⟩ from LD).kq.size
        rw [← hW, ← hZ]
        clear hW hZ LD
        refine hK.out _ _ (fun _ => ⟨(show Lw X0 v121 B ⟨k, m, g, x, r⟩ ⟨l, n, h, y, s⟩ from L122).a, (show Lw X0 v121 B ⟨k, m, g, x, r⟩ ⟨l, n, h, y, s⟩ from L122).b⟩) ?_
        clear hK K
        try simp only [Act.put, List.setIfInBounds_toArray, List.set_cons_zero, List.set_cons_succ]
        refine AnyL.oneAt 2 rfl (by kernel_rfl) rfl ?_
        intro K hK
        go_simp
        refine (HTA' _).mono ?_
        rintro e v123 ⟨rfl, gg⟩
        have gk : Kq _ v123 := .of_grown gg
        clear gg
        have L124 : Hid (Lw X0 v123 B ⟨k, m, g, x, r⟩ ⟨l, n, h, y, s⟩) := Lw.step L122 gk
        have R97n : Hid (Rv v123 Z98) := Rv.kq R97 gk
        clear R97
        clear gk L122
        refine hK.out _ _ (fun _ => ⟨(show Lw X0 v123 B ⟨k, m, g, x, r⟩ ⟨l, n, h, y, s⟩ from L124).a, (show Lw X0 v123 B ⟨k, m, g, x, r⟩ ⟨l, n, h, y, s⟩ from L124).b⟩) ?_
        clear hK K
        try simp only [Act.put, List.setIfInBounds_toArray, List.set_cons_zero, List.set_cons_succ]
        refine AnyL.oneAt 4 rfl (by kernel_rfl) rfl ?_
        intro K hK
        go_simp
        refine (HTB' _).mono ?_
        rintro e v125 ⟨rfl, gg⟩
        have gk : Kq _ v125 := .of_grown gg
        clear gg
        have L126 : Hid (Lw X0 v125 B ⟨k, m, g, x, r⟩ ⟨l, n, h, y, s⟩) := Lw.step L124 gk
        have R97nn : Hid (Rv v125 Z98) := Rv.kq R97n gk
        clear R97n
        clear gk L124
        refine hK.out _ _ (fun _ => ⟨(show Lw X0 v125 B ⟨k, m, g, x, r⟩ ⟨l, n, h, y, s⟩ from L126).a, (show Lw X0 v125 B ⟨k, m, g, x, r⟩ ⟨l, n, h, y, s⟩ from L126).b⟩) ?_
        clear hK K
        try simp only [Act.put, List.setIfInBounds_toArray, List.set_cons_zero, List.set_cons_succ]
        refine AnyL.oneAt 5 rfl (by kernel_rfl) rfl ?_
        intro K hK
        go_simp
        refine (HI' _ (Tb.kq HT9 (Lw.kq L126))).mono ?_
        rintro e v127 ⟨⟨c1, ⟨uk1, um1, ug1, ux1, ur1⟩, rfl, hu⟩, gk⟩
        dsimp only
        have HU1 : Hid (A.is c1 ⟨uk1, um1, ug1, ux1, ur1⟩) := hu
        clear hu
        have L128 : Hid (Lw X0 v127 B ⟨k, m, g, x, r⟩ ⟨l, n, h, y, s⟩) := Lw.step L126 gk
        have R97nnn : Hid (Rv v127 Z98) := Rv.kq R97nn gk
        clear R97nn
        clear gk L126
        refine hK.out _ _ (fun _ => ⟨(show Lw X0 v127 B ⟨k, m, g, x, r⟩ ⟨l, n, h, y, s⟩ from L128).a, (show Lw X0 v127 B ⟨k, m, g, x, r⟩ ⟨l, n, h, y, s⟩ from L128).b⟩) ?_
        clear hK K
        try simp only [Act.put, List.setIfInBounds_toArray, List.set_cons_zero, List.set_cons_succ]
        obtain ⟨r0, r1, r2, r3, r4, r5, rz⟩ := (show Rv v127 Z98 from R97nnn)
        refine AnyL.oneAt 7 rfl (by kernel_rfl) rfl ?_
        intro K hK
        go_simp
        refine hK.out _ _ (fun h => absurd rfl h) ?_
        clear hK K
        try simp only [Act.put, List.setIfInBounds_toArray, List.set_cons_zero, List.set_cons_succ]
        refine AnyL.done (by kernel_rfl) ?_
        have hF := fin_set (show Lw X0 v127 B ⟨k, m, g, x, r⟩ ⟨l, n, h, y, s⟩ from L128) (show Rv v127 Z98 from R97nnn) (show X0.heap.size ≤ Z98 from zZ98) (show B + 1 < X0.heap.size from ZB1) (show Vc X0 B ⟨k, m, g, x, r⟩ from VA1) (show Vc X0 (B + 1) ⟨l, n, h, y, s⟩ from VB1) c1 uk1 um1 ug1 ux1 ur1
        obtain ⟨X1, hX⟩ : ∃ X, X = s6 v127 Z98 c1 uk1 um1 ug1 ux1 ur1 := ⟨_, rfl⟩
        rw [← hX] at hF
        have hX' := hX
        unfold s6 at hX'
        rw [← hX']
        clear hX hX' r0 r1 r2 r3 r4 r5 rz L128 R97nnn zZ98
        have LX1 : Hid (Lw X0 X1 B ⟨k, m, g, x, r⟩ ⟨l, n, h, y, s⟩) := hF.1
        have AX1 : Hid (Ac X1 Z98 c1 ⟨uk1, um1, ug1, ux1, ur1⟩) := hF.2
        clear hF
        obtain ⟨e0, e1, e2, e3, e4, e5⟩ := (show Ac X0 Z8 c0 ⟨uk0, um0, ug0, ux0, ur0⟩ from AX0).kq (Lw.kq LX1)
        obtain ⟨f0, f1, f2, f3, f4, f5⟩ := (show Ac X1 Z98 c1 ⟨uk1, um1, ug1, ux1, ur1⟩ from AX1)
        go_wp2_with fail
        refine (HEQ' _ _ ⟨uk1, um1, ug1, ux1, ur1⟩ ⟨uk0, um0, ug0, ux0, ur0⟩ HU1 HU0 _).mono ?_
        rintro e w8 ⟨rfl, g8⟩
        have GF : Hid (Kq w w8) := Kq.trans (Kq.trans K2 (Lw.kq LX0)) (Kq.trans (Lw.kq LX1) (.of_grown g8))
        clear g8 e0 e1 e2 e3 e4 e5 f0 f1 f2 f3 f4 f5
        go_wp2_with fail
        go_ret
        exact ⟨rfl, GF⟩
  · intro K hK
    go_simp
    obtain ⟨Z4, hZ⟩ : ∃ Z, Z = (V0 : World).heap.size := ⟨_, rfl⟩
    obtain ⟨v129, hW⟩ : ∃ Wn, Wn = (V0 : World).alloc (.cells #[.int .i64 0, .int .i64 0, .int .i64 0, .float .f64 0, .string ⟨#[]⟩, .int .i64 0] 28) := ⟨_, rfl⟩
    have L130 : Hid (Lw w2 v129 B ⟨k, m, g, x, r⟩ ⟨l, n, h, y, s⟩) := Lw.step LD (by rw [hW]; exact .of_grown (Grown.alloc (Grown.refl _) _ _))
    have R3 : Hid (Rv v129 Z4) := by rw [hW, hZ]; exact Rv.new _ _
    have zZ4 : Hid (w2.heap.size ≤ Z4) := by rw [hZ]; exact (show Lw w2 V0 B ⟨k, m, g, x, r⟩ ⟨l, n, h, y, s⟩ from LD).kq.size
    rw [← hW, ← hZ]
    clear hW hZ LD
    refine hK.out _ _ (fun _ => ⟨(show Lw w2 v129 B ⟨k, m, g, x, r⟩ ⟨l, n, h, y, s⟩ from L130).a, (show Lw w2 v129 B ⟨k, m, g, x, r⟩ ⟨l, n, h, y, s⟩ from L130).b⟩) ?_
    clear hK K
    try simp only [Act.put, List.setIfInBounds_toArray, List.set_cons_zero, List.set_cons_succ]
    refine AnyL.oneAt 2 rfl (by kernel_rfl) rfl ?_
    intro K hK
    go_simp
    refine (HTA' _).mono ?_
    rintro e v131 ⟨rfl, gg⟩
    have gk : Kq _ v131 := .of_grown gg
    clear gg
    have L132 : Hid (Lw w2 v131 B ⟨k, m, g, x, r⟩ ⟨l, n, h, y, s⟩) := Lw.step L130 gk
    have R3n : Hid (Rv v131 Z4) := Rv.kq R3 gk
    clear R3
    clear gk L130
    refine hK.out _ _ (fun _ => ⟨(show Lw w2 v131 B ⟨k, m, g, x, r⟩ ⟨l, n, h, y, s⟩ from L132).a, (show Lw w2 v131 B ⟨k, m, g, x, r⟩ ⟨l, n, h, y, s⟩ from L132).b⟩) ?_
    clear hK K
    try simp only [Act.put, List.setIfInBounds_toArray, List.set_cons_zero, List.set_cons_succ]
    refine AnyL.oneAt 4 rfl (by kernel_rfl) rfl ?_
    intro K hK
    go_simp
    refine (HTB' _).mono ?_
    rintro e v133 ⟨rfl, gg⟩
    have gk : Kq _ v133 := .of_grown gg
    clear gg
    have L134 : Hid (Lw w2 v133 B ⟨k, m, g, x, r⟩ ⟨l, n, h, y, s⟩) := Lw.step L132 gk
    have R3nn : Hid (Rv v133 Z4) := Rv.kq R3n gk
    clear R3n
    clear gk L132
    refine hK.out _ _ (fun _ => ⟨(show Lw w2 v133 B ⟨k, m, g, x, r⟩ ⟨l, n, h, y, s⟩ from L134).a, (show Lw w2 v133 B ⟨k, m, g, x, r⟩ ⟨l, n, h, y, s⟩ from L134).b⟩) ?_
    clear hK K
    try simp only [Act.put, List.setIfInBounds_toArray, List.set_cons_zero, List.set_cons_succ]
    refine AnyL.oneAt 5 rfl (by kernel_rfl) rfl ?_
    intro K hK
    go_simp
    refine (HO' _).mono ?_
    rintro e v135 ⟨⟨c0, ⟨uk0, um0, ug0, ux0, ur0⟩, rfl, hu⟩, gk⟩
    dsimp only
    have HU0 : Hid (A.is c0 ⟨uk0, um0, ug0, ux0, ur0⟩) := hu
    clear hu
    have L136 : Hid (Lw w2 v135 B ⟨k, m, g, x, r⟩ ⟨l, n, h, y, s⟩) := Lw.step L134 gk
    have R3nnn : Hid (Rv v135 Z4) := Rv.kq R3nn gk
    clear R3nn
    clear gk L134
    refine hK.out _ _ (fun _ => ⟨(show Lw w2 v135 B ⟨k, m, g, x, r⟩ ⟨l, n, h, y, s⟩ from L136).a, (show Lw w2 v135 B ⟨k, m, g, x, r⟩ ⟨l, n, h, y, s⟩ from L136).b⟩) ?_
    clear hK K
    try simp only [Act.put, List.setIfInBounds_toArray, List.set_cons_zero, List.set_cons_succ]
    obtain ⟨r0, r1, r2, r3, r4, r5, rz⟩ := (show Rv v135 Z4 from R3nnn)
    refine AnyL.oneAt 7 rfl (by kernel_rfl) rfl ?_
    intro K hK
    go_simp
    refine hK.out _ _ (fun h => absurd rfl h) ?_
    clear hK K
    try simp only [Act.put, List.setIfInBounds_toArray, List.set_cons_zero, List.set_cons_succ]
    refine AnyL.done (by kernel_rfl) ?_
    have hF := fin_set (show Lw w2 v135 B ⟨k, m, g, x, r⟩ ⟨l, n, h, y, s⟩ from L136) (show Rv v135 Z4 from R3nnn) (show w2.heap.size ≤ Z4 from zZ4) (show B + 1 < w2.heap.size from ZB0) (show Vc w2 B ⟨k, m, g, x, r⟩ from VA0) (show Vc w2 (B + 1) ⟨l, n, h, y, s⟩ from VB0) c0 uk0 um0 ug0 ux0 ur0
    obtain ⟨X0, hX⟩ : ∃ X, X = s6 v135 Z4 c0 uk0 um0 ug0 ux0 ur0 := ⟨_, rfl⟩
    rw [← hX] at hF
    have hX' := hX
    unfold s6 at hX'
    rw [← hX']
    clear hX hX' r0 r1 r2 r3 r4 r5 rz L136 R3nnn zZ4
    have LX0 : Hid (Lw w2 X0 B ⟨k, m, g, x, r⟩ ⟨l, n, h, y, s⟩) := hF.1
    have AX0 : Hid (Ac X0 Z4 c0 ⟨uk0, um0, ug0, ux0, ur0⟩) := hF.2
    clear hF
    have ZB1 : Hid (B + 1 < X0.heap.size) := lt_of_cell (Vc.c0 (Lw.b LX0))
    have VA1 : Hid (Vc X0 B ⟨k, m, g, x, r⟩) := Lw.a LX0
    have VB1 : Hid (Vc X0 (B + 1) ⟨l, n, h, y, s⟩) := Lw.b LX0
    have L9 : Hid (Lw X0 X0 B ⟨k, m, g, x, r⟩ ⟨l, n, h, y, s⟩) := ⟨Kq.refl _, VA1, VB1⟩
    have HT9 : Hid (Tb X0) := Tb.kq HT2 (Lw.kq LX0)
    go_wp2_with fail
    refine AnyL.region (S := (fun W' : World => Vc W' B ⟨k, m, g, x, r⟩ ∧ Vc W' (B + 1) ⟨l, n, h, y, s⟩)) (z := 7) (by kernel_rfl) ?_
    obtain ⟨V1, hVd⟩ : ∃ V, V = X0.drew := ⟨_, rfl⟩
    rw [← hVd]
    have LD : Hid (Lw X0 V1 B ⟨k, m, g, x, r⟩ ⟨l, n, h, y, s⟩) := by rw [hVd]; exact Lw.step L9 (Kq.drew (Kq.refl _))
    have hS0 : (fun W' : World => Vc W' B ⟨k, m, g, x, r⟩ ∧ Vc W' (B + 1) ⟨l, n, h, y, s⟩) V1 := ⟨(show Lw X0 V1 B ⟨k, m, g, x, r⟩ ⟨l, n, h, y, s⟩ from LD).a, (show Lw X0 V1 B ⟨k, m, g, x, r⟩ ⟨l, n, h, y, s⟩ from LD).b⟩
    clear hVd
    refine AnyL.takeAt 0 (.int .i64 op) rfl (by kernel_rfl) (by kernel_rfl) (by kernel_rfl) (by kernel_rfl) (fun _ _ _ h => h) rfl hS0 (by intro W hW; obtain ⟨⟨q0, q1, q2, q3, q4⟩, ⟨p0, p1, p2, p3, p4⟩⟩ := hW; go_simp) ?_
    try simp only [Act.put, List.setIfInBounds_toArray, List.set_cons_zero, List.set_cons_succ]
    refine AnyL.takeAt 1 (.agg #[.int .i64 k, .int .i64 m, .float .f64 g, .string x, .int .i64 r]) rfl (by kernel_rfl) (by kernel_rfl) (by kernel_rfl) (by kernel_rfl) (fun _ _ _ h => h) rfl hS0 (by intro W hW; obtain ⟨⟨q0, q1, q2, q3, q4⟩, ⟨p0, p1, p2, p3, p4⟩⟩ := hW; go_simp) ?_
    try simp only [Act.put, List.setIfInBounds_toArray, List.set_cons_zero, List.set_cons_succ]
    refine AnyL.takeAt 3 (.agg #[.int .i64 l, .int .i64 n, .float .f64 h, .string y, .int .i64 s]) rfl (by kernel_rfl) (by kernel_rfl) (by kernel_rfl) (by kernel_rfl) (fun _ _ _ h => h) rfl hS0 (by intro W hW; obtain ⟨⟨q0, q1, q2, q3, q4⟩, ⟨p0, p1, p2, p3, p4⟩⟩ := hW; go_simp) ?_
    try simp only [Act.put, List.setIfInBounds_toArray, List.set_cons_zero, List.set_cons_succ]
    clear hS0
    refine AnyL.two 2 6 rfl rfl (by kernel_rfl) rfl rfl ?_ ?_
    · intro K hK
      go_simp
      refine (HTA' _).mono ?_
      rintro e v137 ⟨rfl, gg⟩
      have gk : Kq _ v137 := .of_grown gg
      clear gg
      have L138 : Hid (Lw X0 v137 B ⟨k, m, g, x, r⟩ ⟨l, n, h, y, s⟩) := Lw.step LD gk
      clear gk LD
      refine hK.out _ _ (fun _ => ⟨(show Lw X0 v137 B ⟨k, m, g, x, r⟩ ⟨l, n, h, y, s⟩ from L138).a, (show Lw X0 v137 B ⟨k, m, g, x, r⟩ ⟨l, n, h, y, s⟩ from L138).b⟩) ?_
      clear hK K
      try simp only [Act.put, List.setIfInBounds_toArray, List.set_cons_zero, List.set_cons_succ]
      refine AnyL.two 4 6 rfl rfl (by kernel_rfl) rfl rfl ?_ ?_
      · intro K hK
        go_simp
        refine (HTB' _).mono ?_
        rintro e v141 ⟨rfl, gg⟩
        have gk : Kq _ v141 := .of_grown gg
        clear gg
        have L142 : Hid (Lw X0 v141 B ⟨k, m, g, x, r⟩ ⟨l, n, h, y, s⟩) := Lw.step L138 gk
        clear gk L138
        refine hK.out _ _ (fun _ => ⟨(show Lw X0 v141 B ⟨k, m, g, x, r⟩ ⟨l, n, h, y, s⟩ from L142).a, (show Lw X0 v141 B ⟨k, m, g, x, r⟩ ⟨l, n, h, y, s⟩ from L142).b⟩) ?_
        clear hK K
        try simp only [Act.put, List.setIfInBounds_toArray, List.set_cons_zero, List.set_cons_succ]
        refine AnyL.two 5 6 rfl rfl (by kernel_rfl) rfl rfl ?_ ?_
        · intro K hK
          go_simp
          refine (HI' _ (Tb.kq HT9 (Lw.kq L142))).mono ?_
          rintro e v145 ⟨⟨c1, ⟨uk1, um1, ug1, ux1, ur1⟩, rfl, hu⟩, gk⟩
          dsimp only
          have HU1 : Hid (A.is c1 ⟨uk1, um1, ug1, ux1, ur1⟩) := hu
          clear hu
          have L146 : Hid (Lw X0 v145 B ⟨k, m, g, x, r⟩ ⟨l, n, h, y, s⟩) := Lw.step L142 gk
          clear gk L142
          refine hK.out _ _ (fun _ => ⟨(show Lw X0 v145 B ⟨k, m, g, x, r⟩ ⟨l, n, h, y, s⟩ from L146).a, (show Lw X0 v145 B ⟨k, m, g, x, r⟩ ⟨l, n, h, y, s⟩ from L146).b⟩) ?_
          clear hK K
          try simp only [Act.put, List.setIfInBounds_toArray, List.set_cons_zero, List.set_cons_succ]
          refine AnyL.oneAt 6 rfl (by kernel_rfl) rfl ?_
          intro K hK
          go_simp
          obtain ⟨Z152, hZ⟩ : ∃ Z, Z = (v145 : World).heap.size := ⟨_, rfl⟩
          obtain ⟨v149, hW⟩ : ∃ Wn, Wn = (v145 : World).alloc (.cells #[.int .i64 0, .int .i64 0, .int .i64 0, .float .f64 0, .string ⟨#[]⟩, .int .i64 0] 28) := ⟨_, rfl⟩
          have L150 : Hid (Lw X0 v149 B ⟨k, m, g, x, r⟩ ⟨l, n, h, y, s⟩) := Lw.step L146 (by rw [hW]; exact .of_grown (Grown.alloc (Grown.refl _) _ _))
          have R151 : Hid (Rv v149 Z152) := by rw [hW, hZ]; exact Rv.new _ _
          have zZ152 : Hid (X0.heap.size ≤ Z152) := by rw [hZ]; exact (show Lw X0 v145 B ⟨k, m, g, x, r⟩ ⟨l, n, h, y, s⟩ from L146).kq.size
          rw [← hW, ← hZ]
          clear hW hZ L146
          refine hK.out _ _ (fun _ => ⟨(show Lw X0 v149 B ⟨k, m, g, x, r⟩ ⟨l, n, h, y, s⟩ from L150).a, (show Lw X0 v149 B ⟨k, m, g, x, r⟩ ⟨l, n, h, y, s⟩ from L150).b⟩) ?_
          clear hK K
          try simp only [Act.put, List.setIfInBounds_toArray, List.set_cons_zero, List.set_cons_succ]
          obtain ⟨r0, r1, r2, r3, r4, r5, rz⟩ := (show Rv v149 Z152 from R151)
          refine AnyL.oneAt 7 rfl (by kernel_rfl) rfl ?_
          intro K hK
          go_simp
          refine hK.out _ _ (fun h => absurd rfl h) ?_
          clear hK K
          try simp only [Act.put, List.setIfInBounds_toArray, List.set_cons_zero, List.set_cons_succ]
          refine AnyL.done (by kernel_rfl) ?_
          have hF := fin_set (show Lw X0 v149 B ⟨k, m, g, x, r⟩ ⟨l, n, h, y, s⟩ from L150) (show Rv v149 Z152 from R151) (show X0.heap.size ≤ Z152 from zZ152) (show B + 1 < X0.heap.size from ZB1) (show Vc X0 B ⟨k, m, g, x, r⟩ from VA1) (show Vc X0 (B + 1) ⟨l, n, h, y, s⟩ from VB1) c1 uk1 um1 ug1 ux1 ur1
          obtain ⟨X1, hX⟩ : ∃ X, X = s6 v149 Z152 c1 uk1 um1 ug1 ux1 ur1 := ⟨_, rfl⟩
          rw [← hX] at hF
          have hX' := hX
          unfold s6 at hX'
          rw [← hX']
          clear hX hX' r0 r1 r2 r3 r4 r5 rz L150 R151 zZ152
          have LX1 : Hid (Lw X0 X1 B ⟨k, m, g, x, r⟩ ⟨l, n, h, y, s⟩) := hF.1
          have AX1 : Hid (Ac X1 Z152 c1 ⟨uk1, um1, ug1, ux1, ur1⟩) := hF.2
          clear hF
          obtain ⟨e0, e1, e2, e3, e4, e5⟩ := (show Ac X0 Z4 c0 ⟨uk0, um0, ug0, ux0, ur0⟩ from AX0).kq (Lw.kq LX1)
          obtain ⟨f0, f1, f2, f3, f4, f5⟩ := (show Ac X1 Z152 c1 ⟨uk1, um1, ug1, ux1, ur1⟩ from AX1)
          go_wp2_with fail
          refine (HEQ' _ _ ⟨uk1, um1, ug1, ux1, ur1⟩ ⟨uk0, um0, ug0, ux0, ur0⟩ HU1 HU0 _).mono ?_
          rintro e w8 ⟨rfl, g8⟩
          have GF : Hid (Kq w w8) := Kq.trans (Kq.trans K2 (Lw.kq LX0)) (Kq.trans (Lw.kq LX1) (.of_grown g8))
          clear g8 e0 e1 e2 e3 e4 e5 f0 f1 f2 f3 f4 f5
          go_wp2_with fail
          go_ret
          exact ⟨rfl, GF⟩
        · intro K hK
          go_simp
          obtain ⟨Z148, hZ⟩ : ∃ Z, Z = (v141 : World).heap.size := ⟨_, rfl⟩
          obtain ⟨v153, hW⟩ : ∃ Wn, Wn = (v141 : World).alloc (.cells #[.int .i64 0, .int .i64 0, .int .i64 0, .float .f64 0, .string ⟨#[]⟩, .int .i64 0] 28) := ⟨_, rfl⟩
          have L154 : Hid (Lw X0 v153 B ⟨k, m, g, x, r⟩ ⟨l, n, h, y, s⟩) := Lw.step L142 (by rw [hW]; exact .of_grown (Grown.alloc (Grown.refl _) _ _))
          have R147 : Hid (Rv v153 Z148) := by rw [hW, hZ]; exact Rv.new _ _
          have zZ148 : Hid (X0.heap.size ≤ Z148) := by rw [hZ]; exact (show Lw X0 v141 B ⟨k, m, g, x, r⟩ ⟨l, n, h, y, s⟩ from L142).kq.size
          rw [← hW, ← hZ]
          clear hW hZ L142
          refine hK.out _ _ (fun _ => ⟨(show Lw X0 v153 B ⟨k, m, g, x, r⟩ ⟨l, n, h, y, s⟩ from L154).a, (show Lw X0 v153 B ⟨k, m, g, x, r⟩ ⟨l, n, h, y, s⟩ from L154).b⟩) ?_
          clear hK K
          try simp only [Act.put, List.setIfInBounds_toArray, List.set_cons_zero, List.set_cons_succ]
          refine AnyL.oneAt 5 rfl (by kernel_rfl) rfl ?_
          intro K hK
          go_simp
          refine (HI' _ (Tb.kq HT9 (Lw.kq L154))).mono ?_
          rintro e v155 ⟨⟨c1, ⟨uk1, um1, ug1, ux1, ur1⟩, rfl, hu⟩, gk⟩
          dsimp only
          have HU1 : Hid (A.is c1 ⟨uk1, um1, ug1, ux1, ur1⟩) := hu
          clear hu
          have L156 : Hid (Lw X0 v155 B ⟨k, m, g, x, r⟩ ⟨l, n, h, y, s⟩) := Lw.step L154 gk
          have R147n : Hid (Rv v155 Z148) := Rv.kq R147 gk
          clear R147
          clear gk L154
          refine hK.out _ _ (fun _ => ⟨(show Lw X0 v155 B ⟨k, m, g, x, r⟩ ⟨l, n, h, y, s⟩ from L156).a, (show Lw X0 v155 B ⟨k, m, g, x, r⟩ ⟨l, n, h, y, s⟩ from L156).b⟩) ?_
          clear hK K
          try simp only [Act.put, List.setIfInBounds_toArray, List.set_cons_zero, List.set_cons_succ]
          obtain ⟨r0, r1, r2, r3, r4, r5, rz⟩ := (show Rv v155 Z148 from R147n)
          refine AnyL.oneAt 7 rfl (by kernel_rfl) rfl ?_
          intro K hK
          go_simp
          refine hK.out _ _ (fun h => absurd rfl h) ?_
          clear hK K
          try simp only [Act.put, List.setIfInBounds_toArray, List.set_cons_zero, List.set_cons_succ]
          refine AnyL.done (by kernel_rfl) ?_
          have hF := fin_set (show Lw X0 v155 B ⟨k, m, g, x, r⟩ ⟨l, n, h, y, s⟩ from L156) (show Rv v155 Z148 from R147n) (show X0.heap.size ≤ Z148 from zZ148) (show B + 1 < X0.heap.size from ZB1) (show Vc X0 B ⟨k, m, g, x, r⟩ from VA1) (show Vc X0 (B + 1) ⟨l, n, h, y, s⟩ from VB1) c1 uk1 um1 ug1 ux1 ur1
          obtain ⟨X1, hX⟩ : ∃ X, X = s6 v155 Z148 c1 uk1 um1 ug1 ux1 ur1 := ⟨_, rfl⟩
          rw [← hX] at hF
          have hX' := hX
          unfold s6 at hX'
          rw [← hX']
          clear hX hX' r0 r1 r2 r3 r4 r5 rz L156 R147n zZ148
          have LX1 : Hid (Lw X0 X1 B ⟨k, m, g, x, r⟩ ⟨l, n, h, y, s⟩) := hF.1
          have AX1 : Hid (Ac X1 Z148 c1 ⟨uk1, um1, ug1, ux1, ur1⟩) := hF.2
          clear hF
          obtain ⟨e0, e1, e2, e3, e4, e5⟩ := (show Ac X0 Z4 c0 ⟨uk0, um0, ug0, ux0, ur0⟩ from AX0).kq (Lw.kq LX1)
          obtain ⟨f0, f1, f2, f3, f4, f5⟩ := (show Ac X1 Z148 c1 ⟨uk1, um1, ug1, ux1, ur1⟩ from AX1)
          go_wp2_with fail
          refine (HEQ' _ _ ⟨uk1, um1, ug1, ux1, ur1⟩ ⟨uk0, um0, ug0, ux0, ur0⟩ HU1 HU0 _).mono ?_
          rintro e w8 ⟨rfl, g8⟩
          have GF : Hid (Kq w w8) := Kq.trans (Kq.trans K2 (Lw.kq LX0)) (Kq.trans (Lw.kq LX1) (.of_grown g8))
          clear g8 e0 e1 e2 e3 e4 e5 f0 f1 f2 f3 f4 f5
          go_wp2_with fail
          go_ret
          exact ⟨rfl, GF⟩
      · intro K hK
        go_simp
        obtain ⟨Z144, hZ⟩ : ∃ Z, Z = (v137 : World).heap.size := ⟨_, rfl⟩
        obtain ⟨v157, hW⟩ : ∃ Wn, Wn = (v137 : World).alloc (.cells #[.int .i64 0, .int .i64 0, .int .i64 0, .float .f64 0, .string ⟨#[]⟩, .int .i64 0] 28) := ⟨_, rfl⟩
        have L158 : Hid (Lw X0 v157 B ⟨k, m, g, x, r⟩ ⟨l, n, h, y, s⟩) := Lw.step L138 (by rw [hW]; exact .of_grown (Grown.alloc (Grown.refl _) _ _))
        have R143 : Hid (Rv v157 Z144) := by rw [hW, hZ]; exact Rv.new _ _
        have zZ144 : Hid (X0.heap.size ≤ Z144) := by rw [hZ]; exact (show Lw X0 v137 B ⟨k, m, g, x, r⟩ ⟨l, n, h, y, s⟩ from L138).kq.size
        rw [← hW, ← hZ]
        clear hW hZ L138
        refine hK.out _ _ (fun _ => ⟨(show Lw X0 v157 B ⟨k, m, g, x, r⟩ ⟨l, n, h, y, s⟩ from L158).a, (show Lw X0 v157 B ⟨k, m, g, x, r⟩ ⟨l, n, h, y, s⟩ from L158).b⟩) ?_
        clear hK K
        try simp only [Act.put, List.setIfInBounds_toArray, List.set_cons_zero, List.set_cons_succ]
        refine AnyL.oneAt 4 rfl (by kernel_rfl) rfl ?_
        intro K hK
        go_simp
        refine (HTB' _).mono ?_
        rintro e v159 ⟨rfl, gg⟩
        have gk : Kq _ v159 := .of_grown gg
        clear gg
        have L160 : Hid (Lw X0 v159 B ⟨k, m, g, x, r⟩ ⟨l, n, h, y, s⟩) := Lw.step L158 gk
        have R143n : Hid (Rv v159 Z144) := Rv.kq R143 gk
        clear R143
        clear gk L158
        refine hK.out _ _ (fun _ => ⟨(show Lw X0 v159 B ⟨k, m, g, x, r⟩ ⟨l, n, h, y, s⟩ from L160).a, (show Lw X0 v159 B ⟨k, m, g, x, r⟩ ⟨l, n, h, y, s⟩ from L160).b⟩) ?_
        clear hK K
        try simp only [Act.put, List.setIfInBounds_toArray, List.set_cons_zero, List.set_cons_succ]
        refine AnyL.oneAt 5 rfl (by kernel_rfl) rfl ?_
        intro K hK
        go_simp
        refine (HI' _ (Tb.kq HT9 (Lw.kq L160))).mono ?_
        rintro e v161 ⟨⟨c1, ⟨uk1, um1, ug1, ux1, ur1⟩, rfl, hu⟩, gk⟩
        dsimp only
        have HU1 : Hid (A.is c1 ⟨uk1, um1, ug1, ux1, ur1⟩) := hu
        clear hu
        have L162 : Hid (Lw X0 v161 B ⟨k, m, g, x, r⟩ ⟨l, n, h, y, s⟩) := Lw.step L160 gk
        have R143nn : Hid (Rv v161 Z144) := Rv.kq R143n gk
        clear R143n
        clear gk L160
        refine hK.out _ _ (fun _ => ⟨(show Lw X0 v161 B ⟨k, m, g, x, r⟩ ⟨l, n, h, y, s⟩ from L162).a, (show Lw X0 v161 B ⟨k, m, g, x, r⟩ ⟨l, n, h, y, s⟩ from L162).b⟩) ?_
        clear hK K
        try simp only [Act.put, List.setIfInBounds_toArray, List.set_cons_zero, List.set_cons_succ]
        obtain ⟨r0, r1, r2, r3, r4, r5, rz⟩ := (show Rv v161 Z144 from R143nn)
        refine AnyL.oneAt 7 rfl (by kernel_rfl) rfl ?_
        intro K hK
        go_simp
        refine hK.out _ _ (fun h => absurd rfl h) ?_
        clear hK K
        try simp only [Act.put, List.setIfInBounds_toArray, List.set_cons_zero, List.set_cons_succ]
        refine AnyL.done (by kernel_rfl) ?_
        have hF := fin_set (show Lw X0 v161 B ⟨k, m, g, x, r⟩ ⟨l, n, h, y, s⟩ from L162) (show Rv v161 Z144 from R143nn) (show X0.heap.size ≤ Z144 from zZ144) (show B + 1 < X0.heap.size from ZB1) (show Vc X0 B ⟨k, m, g, x, r⟩ from VA1) (show Vc X0 (B + 1) ⟨l, n, h, y, s⟩ from VB1) c1 uk1 um1 ug1 ux1 ur1
        obtain ⟨X1, hX⟩ : ∃ X, X = s6 v161 Z144 c1 uk1 um1 ug1 ux1 ur1 := ⟨_, rfl⟩
        rw [← hX] at hF
        have hX' := hX
        unfold s6 at hX'
        rw [← hX']
        clear hX hX' r0 r1 r2 r3 r4 r5 rz L162 R143nn zZ144
        have LX1 : Hid (Lw X0 X1 B ⟨k, m, g, x, r⟩ ⟨l, n, h, y, s⟩) := hF.1
        have AX1 : Hid (Ac X1 Z144 c1 ⟨uk1, um1, ug1, ux1, ur1⟩) := hF.2
        clear hF
        obtain ⟨e0, e1, e2, e3, e4, e5⟩ := (show Ac X0 Z4 c0 ⟨uk0, um0, ug0, ux0, ur0⟩ from AX0).kq (Lw.kq LX1)
        obtain ⟨f0, f1, f2, f3, f4, f5⟩ := (show Ac X1 Z144 c1 ⟨uk1, um1, ug1, ux1, ur1⟩ from AX1)
        go_wp2_with fail
        refine (HEQ' _ _ ⟨uk1, um1, ug1, ux1, ur1⟩ ⟨uk0, um0, ug0, ux0, ur0⟩ HU1 HU0 _).mono ?_
        rintro e w8 ⟨rfl, g8⟩
        have GF : Hid (Kq w w8) := Kq.trans (Kq.trans K2 (Lw.kq LX0)) (Kq.trans (Lw.kq LX1) (.of_grown g8))
        clear g8 e0 e1 e2 e3 e4 e5 f0 f1 f2 f3 f4 f5
        go_wp2_with fail
        go_ret
        exact ⟨rfl, GF⟩
    · intro K hK
      go_simp
      obtain ⟨Z140, hZ⟩ : ∃ Z, Z = (V1 : World).heap.size := ⟨_, rfl⟩
      obtain ⟨v163, hW⟩ : ∃ Wn, Wn = (V1 : World).alloc (.cells #[.int .i64 0, .int .i64 0, .int .i64 0, .float .f64 0, .string ⟨#[]⟩, .int .i64 0] 28) := ⟨_, rfl⟩
      have L164 : Hid (Lw X0 v163 B ⟨k, m, g, x, r⟩ ⟨l, n, h, y, s⟩) := Lw.step LD (by rw [hW]; exact .of_grown (Grown.alloc (Grown.refl _) _ _))
      have R139 : Hid (Rv v163 Z140) := by rw [hW, hZ]; exact Rv.new _ _
      have zZ140 : Hid (X0.heap.size ≤ Z140) := by rw [hZ]; exact (show Lw X0 V1 B ⟨k, m, g, x, r⟩ ⟨l, n, h, y, s⟩ from LD).kq.size
      rw [← hW, ← hZ]
      clear hW hZ LD
      refine hK.out _ _ (fun _ => ⟨(show Lw X0 v163 B ⟨k, m, g, x, r⟩ ⟨l, n, h, y, s⟩ from L164).a, (show Lw X0 v163 B ⟨k, m, g, x, r⟩ ⟨l, n, h, y, s⟩ from L164).b⟩) ?_
      clear hK K
      try simp only [Act.put, List.setIfInBounds_toArray, List.set_cons_zero, List.set_cons_succ]
      refine AnyL.oneAt 2 rfl (by kernel_rfl) rfl ?_
      intro K hK
      go_simp
      refine (HTA' _).mono ?_
      rintro e v165 ⟨rfl, gg⟩
      have gk : Kq _ v165 := .of_grown gg
      clear gg
      have L166 : Hid (Lw X0 v165 B ⟨k, m, g, x, r⟩ ⟨l, n, h, y, s⟩) := Lw.step L164 gk
      have R139n : Hid (Rv v165 Z140) := Rv.kq R139 gk
      clear R139
      clear gk L164
      refine hK.out _ _ (fun _ => ⟨(show Lw X0 v165 B ⟨k, m, g, x, r⟩ ⟨l, n, h, y, s⟩ from L166).a, (show Lw X0 v165 B ⟨k, m, g, x, r⟩ ⟨l, n, h, y, s⟩ from L166).b⟩) ?_
      clear hK K
      try simp only [Act.put, List.setIfInBounds_toArray, List.set_cons_zero, List.set_cons_succ]
      refine AnyL.oneAt 4 rfl (by kernel_rfl) rfl ?_
      intro K hK
      go_simp
      refine (HTB' _).mono ?_
      rintro e v167 ⟨rfl, gg⟩
      have gk : Kq _ v167 := .of_grown gg
      clear gg
      have L168 : Hid (Lw X0 v167 B ⟨k, m, g, x, r⟩ ⟨l, n, h, y, s⟩) := Lw.step L166 gk
      have R139nn : Hid (Rv v167 Z140) := Rv.kq R139n gk
      clear R139n
      clear gk L166
      refine hK.out _ _ (fun _ => ⟨(show Lw X0 v167 B ⟨k, m, g, x, r⟩ ⟨l, n, h, y, s⟩ from L168).a, (show Lw X0 v167 B ⟨k, m, g, x, r⟩ ⟨l, n, h, y, s⟩ from L168).b⟩) ?_
      clear hK K
      try simp only [Act.put, List.setIfInBounds_toArray, List.set_cons_zero, List.set_cons_succ]
      refine AnyL.oneAt 5 rfl (by kernel_rfl) rfl ?_
      intro K hK
      go_simp
      refine (HI' _ (Tb.kq HT9 (Lw.kq L168))).mono ?_
      rintro e v169 ⟨⟨c1, ⟨uk1, um1, ug1, ux1, ur1⟩, rfl, hu⟩, gk⟩
      dsimp only
      have HU1 : Hid (A.is c1 ⟨uk1, um1, ug1, ux1, ur1⟩) := hu
      clear hu
      have L170 : Hid (Lw X0 v169 B ⟨k, m, g, x, r⟩ ⟨l, n, h, y, s⟩) := Lw.step L168 gk
      have R139nnn : Hid (Rv v169 Z140) := Rv.kq R139nn gk
      clear R139nn
      clear gk L168
      refine hK.out _ _ (fun _ => ⟨(show Lw X0 v169 B ⟨k, m, g, x, r⟩ ⟨l, n, h, y, s⟩ from L170).a, (show Lw X0 v169 B ⟨k, m, g, x, r⟩ ⟨l, n, h, y, s⟩ from L170).b⟩) ?_
      clear hK K
      try simp only [Act.put, List.setIfInBounds_toArray, List.set_cons_zero, List.set_cons_succ]
      obtain ⟨r0, r1, r2, r3, r4, r5, rz⟩ := (show Rv v169 Z140 from R139nnn)
      refine AnyL.oneAt 7 rfl (by kernel_rfl) rfl ?_
      intro K hK
      go_simp
      refine hK.out _ _ (fun h => absurd rfl h) ?_
      clear hK K
      try simp only [Act.put, List.setIfInBounds_toArray, List.set_cons_zero, List.set_cons_succ]
      refine AnyL.done (by kernel_rfl) ?_
      have hF := fin_set (show Lw X0 v169 B ⟨k, m, g, x, r⟩ ⟨l, n, h, y, s⟩ from L170) (show Rv v169 Z140 from R139nnn) (show X0.heap.size ≤ Z140 from zZ140) (show B + 1 < X0.heap.size from ZB1) (show Vc X0 B ⟨k, m, g, x, r⟩ from VA1) (show Vc X0 (B + 1) ⟨l, n, h, y, s⟩ from VB1) c1 uk1 um1 ug1 ux1 ur1
      obtain ⟨X1, hX⟩ : ∃ X, X = s6 v169 Z140 c1 uk1 um1 ug1 ux1 ur1 := ⟨_, rfl⟩
      rw [← hX] at hF
      have hX' := hX
      unfold s6 at hX'
      rw [← hX']
      clear hX hX' r0 r1 r2 r3 r4 r5 rz L170 R139nnn zZ140
      have LX1 : Hid (Lw X0 X1 B ⟨k, m, g, x, r⟩ ⟨l, n, h, y, s⟩) := hF.1
      have AX1 : Hid (Ac X1 Z140 c1 ⟨uk1, um1, ug1, ux1, ur1⟩) := hF.2
      clear hF
      obtain ⟨e0, e1, e2, e3, e4, e5⟩ := (show Ac X0 Z4 c0 ⟨uk0, um0, ug0, ux0, ur0⟩ from AX0).kq (Lw.kq LX1)
      obtain ⟨f0, f1, f2, f3, f4, f5⟩ := (show Ac X1 Z140 c1 ⟨uk1, um1, ug1, ux1, ur1⟩ from AX1)
      go_wp2_with fail
      refine (HEQ' _ _ ⟨uk1, um1, ug1, ux1, ur1⟩ ⟨uk0, um0, ug0, ux0, ur0⟩ HU1 HU0 _).mono ?_
      rintro e w8 ⟨rfl, g8⟩
      have GF : Hid (Kq w w8) := Kq.trans (Kq.trans K2 (Lw.kq LX0)) (Kq.trans (Lw.kq LX1) (.of_grown g8))
      clear g8 e0 e1 e2 e3 e4 e5 f0 f1 f2 f3 f4 f5
      go_wp2_with fail
      go_ret
      exact ⟨rfl, GF⟩
end Go.Proofs.YtladepgpandklaaGreatDoor
namespace Go.Proofs.YtladepgpandklaaGreatDoor
open Go.ChangeShapes Go.WideShapes Go.ChangeAt Go.RowKit
set_option linter.unusedVariables false
set_option maxRecDepth 100000
theorem val_stays_kq {H : Type} {enc : TypeId × Value → H} {W W' : World} {v : Value} {d : DataW H} {p : List MemPlace} (h : DataW.Trod enc Tryz.prog W 0 (fun _ => true) true 24 v d p) (hlt : ∀ x ∈ p, x.block < W.heap.size) (hg : Kq W W') : DataW.Trod enc Tryz.prog W' 0 (fun b => decide (b < W.heap.size)) true 24 v d p := by
  obtain ⟨fuel, hf⟩ := h
  refine ⟨fuel, DataW.trod_stays (kids_book laidOut rVal.1) (book_sized rVal.1) (fun h => by cases h) ⟨rVal.2, book_self 24⟩ hf (fun x hx => ?_) (fun x hx => by simpa using hlt x hx)⟩
  have hb := hlt x hx
  cases x with
  | cell b o => exact World.cell?_of_block (w := W) (hg.block b hb)
  | map b => exact hg.block b hb
end Go.Proofs.YtladepgpandklaaGreatDoor
