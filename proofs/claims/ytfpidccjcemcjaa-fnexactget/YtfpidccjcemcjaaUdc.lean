import Derived.Test.YtfpidccjcemcjaaUdb
import Derived.Test.YtfpidccjcemcjaaUaf
import Derived.Deep.Cut
namespace Go.Proofs.Ytfpidccjcemcjaa
open Go.ChangeShapes Go.WideShapes Go.ChangeAt Go.RowKit
set_option linter.unusedVariables false
set_option maxRecDepth 100000
attribute [local go_sem] run_equalIn_flt
set_option maxHeartbeats 8000000 in
theorem ce_c (p : Pv) (c uk um : Int) (ug : Nat) (ux : ByteArray) (ur : Int) (HK : ∀ w, Calls Try.prog 12 #[vv p.a] w fun e w' => e = .returned (va c ⟨uk, um, ug, ux, ur⟩) ∧ Kq w w') {B M : Nat} {L : List (Vv × Int)} (hc : (c == 0) = false) (w : World) (hB : w.cell? ⟨B, 2, none⟩ = some (.map (some M))) (hM : Mp w M L) : Calls Try.prog 66 #[.pointer (some ⟨B, 0, none⟩), pv p] w fun e w' => e = .returned (.bool false) ∧ Kq w w' := by
  obtain ⟨⟨k, m, g, x, r⟩, ⟨k2, m2, g2, x2, r2⟩, t⟩ := p
  unfold vv va at HK
  unfold pv
  dsimp only at *
  have hst : ∀ (a : Addr) (n : Nat) (m : Mode) (w : World), (store a (.float .f64 n) m).run Try.prog w = stored Try.prog w a (.float .f64 n) m := fun a n m w => run_store _ _ _ _ _ rfl
  go_enter Try.func66, Try.ntmps66
  go_upto_region 2 with fail
  refine (HK _).mono ?_
  rintro e w1 ⟨rfl, g1⟩
  have P1 := (Pb.new w ⟨⟨k, m, g, x, r⟩, ⟨k2, m2, g2, x2, r2⟩, t⟩ 51).kq g1
  have G1 : Kq w w1 := (kq_alloc _ _ _).trans g1
  clear g1
  go_upto_region 2 with fail
  have ga : Kq w1 (w1.alloc (.cells #[.int .i64 c, .int .i64 uk, .int .i64 um, .float .f64 ug, .string ux, .int .i64 ur] 28)) := kq_alloc _ _ _
  have hB1 := ga.cell (G1.cell hB)
  have hM1 := (hM.kq G1).kq ga
  have HP : Hid (Pb (w1.alloc (.cells #[.int .i64 c, .int .i64 uk, .int .i64 um, .float .f64 ug, .string ux, .int .i64 ur] 28)) w.heap.size ⟨⟨k, m, g, x, r⟩, ⟨k2, m2, g2, x2, r2⟩, t⟩) := P1.kq ga
  have HA : Hid (Ac (w1.alloc (.cells #[.int .i64 c, .int .i64 uk, .int .i64 um, .float .f64 ug, .string ux, .int .i64 ur] 28)) w1.heap.size c ⟨uk, um, ug, ux, ur⟩) := Ac.new _ _ _ _ _ _ _ _
  have HG : Hid (Kq w (w1.alloc (.cells #[.int .i64 c, .int .i64 uk, .int .i64 um, .float .f64 ug, .string ux, .int .i64 ur] 28))) := G1.trans ga
  clear ga hB hM G1 P1
  generalize w1.alloc (.cells #[.int .i64 c, .int .i64 uk, .int .i64 um, .float .f64 ug, .string ux, .int .i64 ur] 28) = W1 at HP HA HG hB1 hM1 ⊢
  generalize w1.heap.size = V at HA ⊢
  obtain ⟨a0, a1, a2, a3, a4, a5⟩ := (show Ac W1 V c ⟨uk, um, ug, ux, ur⟩ from HA)
  obtain ⟨p0, p1, p2, p3, p4, p5, p6, p7, p8, p9, p10⟩ := (show Pb W1 w.heap.size ⟨⟨k, m, g, x, r⟩, ⟨k2, m2, g2, x2, r2⟩, t⟩ from HP)
  dsimp only at a0 a1 a2 a3 a4 a5 p0 p1 p2 p3 p4 p5 p6 p7 p8 p9 p10
  go_wp2_with fail
  go_ret
  exact ⟨by first | rfl | simp [*], HG⟩
set_option maxHeartbeats 8000000 in
theorem ce_k (p : Pv) (uk um : Int) (ug : Nat) (ux : ByteArray) (ur : Int) (HK : ∀ w, Calls Try.prog 12 #[vv p.a] w fun e w' => e = .returned (va 0 ⟨uk, um, ug, ux, ur⟩) ∧ Kq w w') {B M : Nat} {L : List (Vv × Int)} (hc : (uk == p.a.k) = false) (w : World) (hB : w.cell? ⟨B, 2, none⟩ = some (.map (some M))) (hM : Mp w M L) : Calls Try.prog 66 #[.pointer (some ⟨B, 0, none⟩), pv p] w fun e w' => e = .returned (.bool false) ∧ Kq w w' := by
  obtain ⟨⟨k, m, g, x, r⟩, ⟨k2, m2, g2, x2, r2⟩, t⟩ := p
  unfold vv va at HK
  unfold pv
  dsimp only at *
  have hst : ∀ (a : Addr) (n : Nat) (m : Mode) (w : World), (store a (.float .f64 n) m).run Try.prog w = stored Try.prog w a (.float .f64 n) m := fun a n m w => run_store _ _ _ _ _ rfl
  go_enter Try.func66, Try.ntmps66
  go_upto_region 2 with fail
  refine (HK _).mono ?_
  rintro e w1 ⟨rfl, g1⟩
  have P1 := (Pb.new w ⟨⟨k, m, g, x, r⟩, ⟨k2, m2, g2, x2, r2⟩, t⟩ 51).kq g1
  have G1 : Kq w w1 := (kq_alloc _ _ _).trans g1
  clear g1
  go_upto_region 2 with fail
  have ga : Kq w1 (w1.alloc (.cells #[.int .i64 0, .int .i64 uk, .int .i64 um, .float .f64 ug, .string ux, .int .i64 ur] 28)) := kq_alloc _ _ _
  have hB1 := ga.cell (G1.cell hB)
  have hM1 := (hM.kq G1).kq ga
  have HP : Hid (Pb (w1.alloc (.cells #[.int .i64 0, .int .i64 uk, .int .i64 um, .float .f64 ug, .string ux, .int .i64 ur] 28)) w.heap.size ⟨⟨k, m, g, x, r⟩, ⟨k2, m2, g2, x2, r2⟩, t⟩) := P1.kq ga
  have HA : Hid (Ac (w1.alloc (.cells #[.int .i64 0, .int .i64 uk, .int .i64 um, .float .f64 ug, .string ux, .int .i64 ur] 28)) w1.heap.size 0 ⟨uk, um, ug, ux, ur⟩) := Ac.new _ _ _ _ _ _ _ _
  have HG : Hid (Kq w (w1.alloc (.cells #[.int .i64 0, .int .i64 uk, .int .i64 um, .float .f64 ug, .string ux, .int .i64 ur] 28))) := G1.trans ga
  clear ga hB hM G1 P1
  generalize w1.alloc (.cells #[.int .i64 0, .int .i64 uk, .int .i64 um, .float .f64 ug, .string ux, .int .i64 ur] 28) = W1 at HP HA HG hB1 hM1 ⊢
  generalize w1.heap.size = V at HA ⊢
  obtain ⟨a0, a1, a2, a3, a4, a5⟩ := (show Ac W1 V 0 ⟨uk, um, ug, ux, ur⟩ from HA)
  obtain ⟨p0, p1, p2, p3, p4, p5, p6, p7, p8, p9, p10⟩ := (show Pb W1 w.heap.size ⟨⟨k, m, g, x, r⟩, ⟨k2, m2, g2, x2, r2⟩, t⟩ from HP)
  dsimp only at a0 a1 a2 a3 a4 a5 p0 p1 p2 p3 p4 p5 p6 p7 p8 p9 p10
  go_wp2_with fail
  go_ret
  exact ⟨by first | rfl | simp [*], HG⟩
set_option maxHeartbeats 8000000 in
theorem ce_v (p : Pv) (HK : ∀ w, Calls Try.prog 12 #[vv p.a] w fun e w' => e = .returned (va 0 p.a) ∧ Kq w w') (hs : FloatKind.f64.format.order p.a.g p.a.g = some .eq) (hx : (p.b.x.size : Int) ≤ 1048576) {B M : Nat} {L : List (Vv × Int)} (hv : ¬ vok p.b) (w : World) (hB : w.cell? ⟨B, 2, none⟩ = some (.map (some M))) (hM : Mp w M L) : Calls Try.prog 66 #[.pointer (some ⟨B, 0, none⟩), pv p] w fun e w' => e = .returned (.bool false) ∧ Kq w w' := by
  have HO := fun w => im_ok p.b hx w
  rw [dc_f hv] at HO
  obtain ⟨⟨k, m, g, x, r⟩, ⟨k2, m2, g2, x2, r2⟩, t⟩ := p
  unfold vv va at HK
  unfold pv
  dsimp only at *
  unfold vv at HO
  dsimp only at HO
  clear hx hv
  have e1 : (k == k) = true := by simp
  have e2 : (m == m) = true := by simp
  have e3 : (x.toList == x.toList) = true := by simp
  have e4 : (r == r) = true := by simp
  have hst : ∀ (a : Addr) (n : Nat) (m : Mode) (w : World), (store a (.float .f64 n) m).run Try.prog w = stored Try.prog w a (.float .f64 n) m := fun a n m w => run_store _ _ _ _ _ rfl
  go_enter Try.func66, Try.ntmps66
  go_upto_region 2 with fail
  refine (HK _).mono ?_
  rintro e w1 ⟨rfl, g1⟩
  have P1 := (Pb.new w ⟨⟨k, m, g, x, r⟩, ⟨k2, m2, g2, x2, r2⟩, t⟩ 51).kq g1
  have G1 : Kq w w1 := (kq_alloc _ _ _).trans g1
  clear g1
  go_upto_region 2 with fail
  have ga : Kq w1 (w1.alloc (.cells #[.int .i64 0, .int .i64 k, .int .i64 m, .float .f64 g, .string x, .int .i64 r] 28)) := kq_alloc _ _ _
  have hB1 := ga.cell (G1.cell hB)
  have hM1 := (hM.kq G1).kq ga
  have HP : Hid (Pb (w1.alloc (.cells #[.int .i64 0, .int .i64 k, .int .i64 m, .float .f64 g, .string x, .int .i64 r] 28)) w.heap.size ⟨⟨k, m, g, x, r⟩, ⟨k2, m2, g2, x2, r2⟩, t⟩) := P1.kq ga
  have HA : Hid (Ac (w1.alloc (.cells #[.int .i64 0, .int .i64 k, .int .i64 m, .float .f64 g, .string x, .int .i64 r] 28)) w1.heap.size 0 ⟨k, m, g, x, r⟩) := Ac.new _ _ _ _ _ _ _ _
  have HG : Hid (Kq w (w1.alloc (.cells #[.int .i64 0, .int .i64 k, .int .i64 m, .float .f64 g, .string x, .int .i64 r] 28))) := G1.trans ga
  clear ga hB hM G1 P1
  generalize w1.alloc (.cells #[.int .i64 0, .int .i64 k, .int .i64 m, .float .f64 g, .string x, .int .i64 r] 28) = W1 at HP HA HG hB1 hM1 ⊢
  generalize w1.heap.size = V at HA ⊢
  obtain ⟨a0, a1, a2, a3, a4, a5⟩ := (show Ac W1 V 0 ⟨k, m, g, x, r⟩ from HA)
  obtain ⟨p0, p1, p2, p3, p4, p5, p6, p7, p8, p9, p10⟩ := (show Pb W1 w.heap.size ⟨⟨k, m, g, x, r⟩, ⟨k2, m2, g2, x2, r2⟩, t⟩ from HP)
  dsimp only at a0 a1 a2 a3 a4 a5 p0 p1 p2 p3 p4 p5 p6 p7 p8 p9 p10
  go_wp2_with fail
  refine (HO _).mono ?_
  rintro e w2 ⟨rfl, g2'⟩
  have HP2 : Hid (Pb w2 w.heap.size ⟨⟨k, m, g, x, r⟩, ⟨k2, m2, g2, x2, r2⟩, t⟩) := Pb.kq HP (.of_grown g2')
  have HG2 : Hid (Kq w w2) := Kq.trans HG (.of_grown g2')
  have hB2 := (Kq.of_grown g2').cell hB1
  have hM2 := hM1.kq (.of_grown g2')
  clear g2' HP HA HG hB1 hM1 a0 a1 a2 a3 a4 a5 p0 p1 p2 p3 p4 p5 p6 p7 p8 p9 p10
  obtain ⟨p0, p1, p2, p3, p4, p5, p6, p7, p8, p9, p10⟩ := (show Pb w2 w.heap.size ⟨⟨k, m, g, x, r⟩, ⟨k2, m2, g2, x2, r2⟩, t⟩ from HP2)
  dsimp only at p0 p1 p2 p3 p4 p5 p6 p7 p8 p9 p10
  go_wp2_with fail
  go_ret
  exact ⟨by first | rfl | simp [*], HG2⟩
set_option maxHeartbeats 8000000 in
theorem ce_z (p : Pv) (HK : ∀ w, Calls Try.prog 12 #[vv p.a] w fun e w' => e = .returned (va 0 p.a) ∧ Kq w w') (hs : FloatKind.f64.format.order p.a.g p.a.g = some .eq) (hx : (p.b.x.size : Int) ≤ 1048576) {B M : Nat} {L : List (Vv × Int)} (hv : vok p.b) (h0 : p.b.k = 0) (w : World) (hB : w.cell? ⟨B, 2, none⟩ = some (.map (some M))) (hM : Mp w M L) : Calls Try.prog 66 #[.pointer (some ⟨B, 0, none⟩), pv p] w fun e w' => e = .returned (.bool false) ∧ Kq w w' := by
  have HO := fun w => im_ok p.b hx w
  rw [dc_t hv] at HO
  obtain ⟨⟨k, m, g, x, r⟩, ⟨k2, m2, g2, x2, r2⟩, t⟩ := p
  unfold vv va at HK
  unfold pv
  dsimp only at *
  unfold vv at HO
  dsimp only at HO
  clear hx hv
  subst h0
  have e1 : (k == k) = true := by simp
  have e2 : (m == m) = true := by simp
  have e3 : (x.toList == x.toList) = true := by simp
  have e4 : (r == r) = true := by simp
  have hst : ∀ (a : Addr) (n : Nat) (m : Mode) (w : World), (store a (.float .f64 n) m).run Try.prog w = stored Try.prog w a (.float .f64 n) m := fun a n m w => run_store _ _ _ _ _ rfl
  go_enter Try.func66, Try.ntmps66
  go_upto_region 2 with fail
  refine (HK _).mono ?_
  rintro e w1 ⟨rfl, g1⟩
  have P1 := (Pb.new w ⟨⟨k, m, g, x, r⟩, ⟨0, m2, g2, x2, r2⟩, t⟩ 51).kq g1
  have G1 : Kq w w1 := (kq_alloc _ _ _).trans g1
  clear g1
  go_upto_region 2 with fail
  have ga : Kq w1 (w1.alloc (.cells #[.int .i64 0, .int .i64 k, .int .i64 m, .float .f64 g, .string x, .int .i64 r] 28)) := kq_alloc _ _ _
  have hB1 := ga.cell (G1.cell hB)
  have hM1 := (hM.kq G1).kq ga
  have HP : Hid (Pb (w1.alloc (.cells #[.int .i64 0, .int .i64 k, .int .i64 m, .float .f64 g, .string x, .int .i64 r] 28)) w.heap.size ⟨⟨k, m, g, x, r⟩, ⟨0, m2, g2, x2, r2⟩, t⟩) := P1.kq ga
  have HA : Hid (Ac (w1.alloc (.cells #[.int .i64 0, .int .i64 k, .int .i64 m, .float .f64 g, .string x, .int .i64 r] 28)) w1.heap.size 0 ⟨k, m, g, x, r⟩) := Ac.new _ _ _ _ _ _ _ _
  have HG : Hid (Kq w (w1.alloc (.cells #[.int .i64 0, .int .i64 k, .int .i64 m, .float .f64 g, .string x, .int .i64 r] 28))) := G1.trans ga
  clear ga hB hM G1 P1
  generalize w1.alloc (.cells #[.int .i64 0, .int .i64 k, .int .i64 m, .float .f64 g, .string x, .int .i64 r] 28) = W1 at HP HA HG hB1 hM1 ⊢
  generalize w1.heap.size = V at HA ⊢
  obtain ⟨a0, a1, a2, a3, a4, a5⟩ := (show Ac W1 V 0 ⟨k, m, g, x, r⟩ from HA)
  obtain ⟨p0, p1, p2, p3, p4, p5, p6, p7, p8, p9, p10⟩ := (show Pb W1 w.heap.size ⟨⟨k, m, g, x, r⟩, ⟨0, m2, g2, x2, r2⟩, t⟩ from HP)
  dsimp only at a0 a1 a2 a3 a4 a5 p0 p1 p2 p3 p4 p5 p6 p7 p8 p9 p10
  go_wp2_with fail
  refine (HO _).mono ?_
  rintro e w2 ⟨rfl, g2'⟩
  have HP2 : Hid (Pb w2 w.heap.size ⟨⟨k, m, g, x, r⟩, ⟨0, m2, g2, x2, r2⟩, t⟩) := Pb.kq HP (.of_grown g2')
  have HG2 : Hid (Kq w w2) := Kq.trans HG (.of_grown g2')
  have hB2 := (Kq.of_grown g2').cell hB1
  have hM2 := hM1.kq (.of_grown g2')
  clear g2' HP HA HG hB1 hM1 a0 a1 a2 a3 a4 a5 p0 p1 p2 p3 p4 p5 p6 p7 p8 p9 p10
  obtain ⟨p0, p1, p2, p3, p4, p5, p6, p7, p8, p9, p10⟩ := (show Pb w2 w.heap.size ⟨⟨k, m, g, x, r⟩, ⟨0, m2, g2, x2, r2⟩, t⟩ from HP2)
  dsimp only at p0 p1 p2 p3 p4 p5 p6 p7 p8 p9 p10
  go_wp2_with fail
  go_ret
  exact ⟨by first | rfl | simp [*], HG2⟩
set_option maxHeartbeats 8000000 in
theorem ce_h (p : Pv) (HK : ∀ w, Calls Try.prog 12 #[vv p.a] w fun e w' => e = .returned (va 0 p.a) ∧ Kq w w') (hs : FloatKind.f64.format.order p.a.g p.a.g = some .eq) (hx : (p.b.x.size : Int) ≤ 1048576) {B M : Nat} {L : List (Vv × Int)} (hk : kok p.a) (hv : vok p.b) (h0 : (p.b.k != 0) = true) (w : World) (hB : w.cell? ⟨B, 2, none⟩ = some (.map (some M))) (hM : Mp w M L) : Calls Try.prog 66 #[.pointer (some ⟨B, 0, none⟩), pv p] w fun e w' => e = .returned (.bool (!(look p.a L).isSome)) ∧ Kq w w' := by
  have HO := fun w => im_ok p.b hx w
  rw [dc_t hv] at HO
  have HH : ∀ w, w.cell? ⟨B, 2, none⟩ = some (.map (some M)) → Mp w M L → Calls Try.prog 74 #[.pointer (some ⟨B, 0, none⟩), vv p.a] w fun e w' => e = .returned (.bool (look p.a L).isSome) ∧ Kq w w' := fun w hB hM => im_has p.a hk w hB hM
  generalize (look p.a L).isSome = ok at HH ⊢
  obtain ⟨⟨k, m, g, x, r⟩, ⟨k2, m2, g2, x2, r2⟩, t⟩ := p
  unfold vv va at HK
  unfold pv
  dsimp only at *
  unfold vv at HO HH
  dsimp only at HO HH
  clear hx hv hk
  have e1 : (k == k) = true := by simp
  have e2 : (m == m) = true := by simp
  have e3 : (x.toList == x.toList) = true := by simp
  have e4 : (r == r) = true := by simp
  have hst : ∀ (a : Addr) (n : Nat) (m : Mode) (w : World), (store a (.float .f64 n) m).run Try.prog w = stored Try.prog w a (.float .f64 n) m := fun a n m w => run_store _ _ _ _ _ rfl
  go_enter Try.func66, Try.ntmps66
  go_upto_region 2 with fail
  refine (HK _).mono ?_
  rintro e w1 ⟨rfl, g1⟩
  have P1 := (Pb.new w ⟨⟨k, m, g, x, r⟩, ⟨k2, m2, g2, x2, r2⟩, t⟩ 51).kq g1
  have G1 : Kq w w1 := (kq_alloc _ _ _).trans g1
  clear g1
  go_upto_region 2 with fail
  have ga : Kq w1 (w1.alloc (.cells #[.int .i64 0, .int .i64 k, .int .i64 m, .float .f64 g, .string x, .int .i64 r] 28)) := kq_alloc _ _ _
  have hB1 := ga.cell (G1.cell hB)
  have hM1 := (hM.kq G1).kq ga
  have HP : Hid (Pb (w1.alloc (.cells #[.int .i64 0, .int .i64 k, .int .i64 m, .float .f64 g, .string x, .int .i64 r] 28)) w.heap.size ⟨⟨k, m, g, x, r⟩, ⟨k2, m2, g2, x2, r2⟩, t⟩) := P1.kq ga
  have HA : Hid (Ac (w1.alloc (.cells #[.int .i64 0, .int .i64 k, .int .i64 m, .float .f64 g, .string x, .int .i64 r] 28)) w1.heap.size 0 ⟨k, m, g, x, r⟩) := Ac.new _ _ _ _ _ _ _ _
  have HG : Hid (Kq w (w1.alloc (.cells #[.int .i64 0, .int .i64 k, .int .i64 m, .float .f64 g, .string x, .int .i64 r] 28))) := G1.trans ga
  clear ga hB hM G1 P1
  generalize w1.alloc (.cells #[.int .i64 0, .int .i64 k, .int .i64 m, .float .f64 g, .string x, .int .i64 r] 28) = W1 at HP HA HG hB1 hM1 ⊢
  generalize w1.heap.size = V at HA ⊢
  obtain ⟨a0, a1, a2, a3, a4, a5⟩ := (show Ac W1 V 0 ⟨k, m, g, x, r⟩ from HA)
  obtain ⟨p0, p1, p2, p3, p4, p5, p6, p7, p8, p9, p10⟩ := (show Pb W1 w.heap.size ⟨⟨k, m, g, x, r⟩, ⟨k2, m2, g2, x2, r2⟩, t⟩ from HP)
  dsimp only at a0 a1 a2 a3 a4 a5 p0 p1 p2 p3 p4 p5 p6 p7 p8 p9 p10
  go_wp2_with fail
  refine (HO _).mono ?_
  rintro e w2 ⟨rfl, g2'⟩
  have HP2 : Hid (Pb w2 w.heap.size ⟨⟨k, m, g, x, r⟩, ⟨k2, m2, g2, x2, r2⟩, t⟩) := Pb.kq HP (.of_grown g2')
  have HG2 : Hid (Kq w w2) := Kq.trans HG (.of_grown g2')
  have hB2 := (Kq.of_grown g2').cell hB1
  have hM2 := hM1.kq (.of_grown g2')
  clear g2' HP HA HG hB1 hM1 a0 a1 a2 a3 a4 a5 p0 p1 p2 p3 p4 p5 p6 p7 p8 p9 p10
  obtain ⟨p0, p1, p2, p3, p4, p5, p6, p7, p8, p9, p10⟩ := (show Pb w2 w.heap.size ⟨⟨k, m, g, x, r⟩, ⟨k2, m2, g2, x2, r2⟩, t⟩ from HP2)
  dsimp only at p0 p1 p2 p3 p4 p5 p6 p7 p8 p9 p10
  go_wp2_with fail
  refine (HH _ hB2 hM2).mono ?_
  rintro e w3 ⟨rfl, g3⟩
  have HG3 : Hid (Kq w w3) := Kq.trans HG2 g3
  clear g3 HG2
  go_wp2_with fail
  go_ret
  exact ⟨by first | rfl | simp [*], HG3⟩
/-- a pair may enter -/
def can (L : List (Vv × Int)) (p : Pv) : Prop := kok p.a ∧ vok p.b ∧ ¬ p.b.k = 0 ∧ look p.a L = none
theorem im_can (p : Pv) (ba : Vb p.a) (hxa : (p.a.x.size : Int) ≤ 1048576) (hxb : (p.b.x.size : Int) ≤ 1048576) {B M : Nat} {L : List (Vv × Int)} (w : World) (hB : w.cell? ⟨B, 2, none⟩ = some (.map (some M))) (hM : Mp w M L) : Calls Try.prog 66 #[.pointer (some ⟨B, 0, none⟩), pv p] w fun e w' => e = .returned (.bool (dc (can L p))) ∧ Kq w w' := by
  obtain ⟨c, u, hy⟩ := ky_ex p.a
  have HK := fun w => im_key hy hxa ba.g w
  have e := hy.kok
  by_cases hk : kok p.a
  case neg =>
    rw [dc_f (fun h => hk h.1)]
    by_cases hc : c = 0
    · subst hc
      obtain ⟨uk, um, ug, ux, ur⟩ := u
      refine ce_k p uk um ug ux ur HK ?_ w hB hM
      have : ¬ uk = p.a.k := fun q => hk (e.2 ⟨rfl, q⟩)
      simpa using this
    · obtain ⟨uk, um, ug, ux, ur⟩ := u
      exact ce_c p c uk um ug ux ur HK (by simpa using hc) w hB hM
  have hu : c = 0 ∧ u = p.a ∧ FloatKind.f64.format.order p.a.g p.a.g = some .eq := by
    cases hy with
    | bad ho => exact absurd hk.1 ho
    | nil ho k0 => exact absurd k0 hk.2.1
    | nan ho k3 hn => have := (hk.2.2 k3).1; rw [hn] at this; cases this
    | whole z ho k3 hw => exact absurd hw ((hk.2.2 k3).2 z)
    | flt ho k3 hn hw => exact ⟨rfl, rfl, hn⟩
    | oth ho k0 k3 =>
      refine ⟨rfl, rfl, ?_⟩
      have hz := vok_fz ho k3
      rcases fl_self p.a.g with q | q
      · unfold fz at hz; rw [fl_nan p.a.g 0 (.inl q)] at hz; cases hz
      · exact q
  obtain ⟨rfl, rfl, hs⟩ := hu
  by_cases hv : vok p.b
  case neg => rw [dc_f (fun h => hv h.2.1)]; exact ce_v p HK hs hxb hv w hB hM
  by_cases h0 : p.b.k = 0
  · rw [dc_f (fun h => h.2.2.1 h0)]; exact ce_z p HK hs hxb hv h0 w hB hM
  have h := ce_h p HK hs hxb hk hv (by simpa using h0) w hB hM
  cases q : look p.a L with
  | none =>
    rw [dc_t ⟨hk, hv, h0, q⟩]
    rw [q] at h
    exact h
  | some t =>
    rw [dc_f (fun h => by have := h.2.2.2; rw [q] at this; cases this)]
    rw [q] at h
    exact h
end Go.Proofs.Ytfpidccjcemcjaa
