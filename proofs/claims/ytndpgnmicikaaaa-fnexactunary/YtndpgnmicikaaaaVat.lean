import Derived.Test.YtndpgnmicikaaaaVap
import Derived.Test.YtndpgnmicikaaaaVaq
import Derived.Test.YtndpgnmicikaaaaVar
import Derived.Test.YtndpgnmicikaaaaVas
namespace Go.Proofs.Ytndpgnmicikaaaa
open Go.ChangeShapes Go.WideShapes Go.ChangeAt Go.RowKit
set_option linter.unusedVariables false
theorem neg_lt {g : Nat} (h : g < 18446744073709551616) : Op.negFloat .f64 g < 18446744073709551616 := by
  show g ^^^ 2 ^ 63 < 2 ^ 64
  exact Nat.xor_lt_two_pow h (by omega)
theorem un_both (op : Int) (v : Vv) (hb : Vb v) (hs : (v.x.size : Int) ≤ 1048576) : ∃ (c : Int) (u : Vv), u.g < 18446744073709551616 ∧ (∀ w, Calls Try.prog 18 #[.int .i64 op, vv v] w fun e w' => e = .returned (va c u) ∧ Grown w w') ∧ (∀ w, Calls Try.prog 19 #[.int .i64 op, vv v] w fun e w' => e = .returned (va c u) ∧ Grown w w') := by
  have z : (0 : Nat) < 18446744073709551616 := by omega
  by_cases ho : vok v
  case neg => exact ⟨1, ⟨0, 0, 0, ⟨#[]⟩, 0⟩, z, fun w => sp_un_bad op v hs ho w, fun w => im_un_bad op v hs ho w⟩
  by_cases h1 : op = 19
  · by_cases k2 : v.k = 2
    · exact ⟨_, _, z, fun w => sp_un_ni op v hs ho h1 k2 w, fun w => im_un_ni op v hs ho h1 k2 w⟩
    by_cases k3 : v.k = 3
    · exact ⟨_, _, neg_lt hb.g, fun w => sp_un_nf op v hs ho h1 k3 w, fun w => im_un_nf op v hs ho h1 k3 w⟩
    exact ⟨_, _, z, fun w => sp_un_x19 op v hs ho h1 k2 k3 w, fun w => im_un_x19 op v hs ho h1 k2 k3 w⟩
  by_cases h2 : op = 20
  · by_cases k2 : v.k = 2
    · exact ⟨_, _, z, fun w => sp_un_fi op v hs ho h2 k2 w, fun w => im_un_fi op v hs ho h2 k2 w⟩
    exact ⟨_, _, z, fun w => sp_un_x20 op v hs ho h2 k2 w, fun w => im_un_x20 op v hs ho h2 k2 w⟩
  by_cases h3 : op = 21
  · by_cases t : vtr v
    · exact ⟨_, _, z, fun w => sp_un_not_true op v hs ho h3 t w, fun w => im_un_not_true op v hs ho h3 t w⟩
    · exact ⟨_, _, z, fun w => sp_un_not_false op v hs ho h3 t w, fun w => im_un_not_false op v hs ho h3 t w⟩
  by_cases h4 : op = 22
  · by_cases k4 : v.k = 4
    · exact ⟨_, _, z, fun w => sp_un_ls op v hs ho h4 k4 w, fun w => im_un_ls op v hs ho h4 k4 w⟩
    exact ⟨_, _, z, fun w => sp_un_x22 op v hs ho h4 k4 w, fun w => im_un_x22 op v hs ho h4 k4 w⟩
  exact ⟨_, _, z, fun w => sp_un_xx op v hs ho h1 h2 h3 h4 w, fun w => im_un_xx op v hs ho h1 h2 h3 h4 w⟩
/-- the six cells of an answer in block B -/
structure Ac (W : World) (B : Nat) (c : Int) (v : Vv) : Prop where
  c0 : W.cell? ⟨B, 0, none⟩ = some (.int .i64 c)
  c1 : W.cell? ⟨B, 1, none⟩ = some (.int .i64 v.k)
  c2 : W.cell? ⟨B, 2, none⟩ = some (.int .i64 v.m)
  c3 : W.cell? ⟨B, 3, none⟩ = some (.float .f64 v.g)
  c4 : W.cell? ⟨B, 4, none⟩ = some (.string v.x)
  c5 : W.cell? ⟨B, 5, none⟩ = some (.int .i64 v.r)
theorem Ac.new (w : World) (c k m : Int) (g : Nat) (x : ByteArray) (r : Int) (t : TypeId) : Ac (w.alloc (.cells #[.int .i64 c, .int .i64 k, .int .i64 m, .float .f64 g, .string x, .int .i64 r] t)) w.heap.size c ⟨k, m, g, x, r⟩ := by
  constructor <;> (rw [World.cell?_alloc_at _ _ _ _ rfl]; rfl)
theorem Ac.grown {a w : World} {B : Nat} {c : Int} {v : Vv} (h : Ac a B c v) (g : Grown a w) : Ac w B c v := by
  have hl : B < a.heap.size := by
    have := h.c0
    unfold World.cell? at this
    cases hh : a.heap[B]? with
    | none => simp [hh] at this
    | some o => exact (Array.getElem?_eq_some_iff.1 hh).1
  have e : ∀ j, w.cell? ⟨B, j, none⟩ = a.cell? ⟨B, j, none⟩ := fun j => World.cell?_of_block (grown_block g hl)
  exact ⟨(e _).trans h.c0, (e _).trans h.c1, (e _).trans h.c2, (e _).trans h.c3, (e _).trans h.c4, (e _).trans h.c5⟩
set_option maxHeartbeats 2000000 in
theorem law_unary (op : Int) (v : Vv) (hb : Vb v) (w : World) : Calls Try.prog 7 #[.int .i64 op, vv v] w fun e w' => e = .returned (.bool true) ∧ Grown w w' := by
  have HS := fun w => sz_val v 1048576 (by omega) hb.x w
  by_cases hs : (v.x.size : Int) ≤ 1048576
  case neg =>
    rw [if_neg hs] at HS
    obtain ⟨k, m, g, x, r⟩ := v
    unfold vv at HS ⊢
    dsimp only at HS hs ⊢
    clear hb
    go_enter Try.func7, Try.ntmps7
    go_wp2_with fail
    refine (HS _).mono ?_
    rintro e w1 ⟨rfl, g1⟩
    have G1 : Hid (Grown w w1) := Grown.trans (by go_grown) g1
    clear g1 HS
    go_wp2_with fail
    go_ret
    exact ⟨rfl, G1⟩
  rw [if_pos hs] at HS
  obtain ⟨c, ⟨uk, um, ug, ux, ur⟩, hu, HO, HI⟩ := un_both op v hb hs
  have HE := fun w => eq_valued c ⟨uk, um, ug, ux, ur⟩ hu w
  have HT := fun w => to_val v w
  obtain ⟨k, m, g, x, r⟩ := v
  unfold vv at HS HO HI HT ⊢
  unfold va at HO HI HE
  dsimp only at HS HO HI HT HE hs ⊢
  have hs2 : ¬ 1048576 - (x.size : Int) < 0 := by omega
  have hst : ∀ (a : Addr) (n : Nat) (m : Mode) (w : World), (store a (.float .f64 n) m).run Try.prog w = stored Try.prog w a (.float .f64 n) m := fun a n m w => run_store _ _ _ _ _ rfl
  clear hb hs hu
  have HS' : Hid (∀ w, _) := HS
  have HO' : Hid (∀ w, _) := HO
  have HI' : Hid (∀ w, _) := HI
  have HT' : Hid (∀ w, _) := HT
  have HE' : Hid (∀ w, _) := HE
  clear HS HO HI HT HE
  go_enter Try.func7, Try.ntmps7
  go_wp2_with fail
  refine (HS' _).mono ?_
  rintro e w1 ⟨rfl, g1⟩
  have G1 : Hid (Grown w w1) := Grown.trans (by go_grown) g1
  have V1 : Hid (Vc w1 w.heap.size ⟨k, m, g, x, r⟩) := (Vc.new w k m g x r 24).grown g1
  obtain ⟨c0, c1, c2, c3, c4⟩ := (show Vc w1 w.heap.size ⟨k, m, g, x, r⟩ from V1)
  clear g1 HS'
  go_wp2_with fail
  refine (HT' _).mono ?_
  rintro e w2 ⟨rfl, g2⟩
  go_wp2_with fail
  refine (HO' _).mono ?_
  rintro e w3 ⟨rfl, g3⟩
  have G3 : Hid (Grown w w3) := Grown.trans G1 (Grown.trans g2 g3)
  have V3 : Hid (Vc w3 w.heap.size ⟨k, m, g, x, r⟩) := Vc.grown V1 (Grown.trans g2 g3)
  obtain ⟨W4, hW4⟩ : ∃ W4, W4 = w3.alloc (.cells #[.int .i64 c, .int .i64 uk, .int .i64 um, .float .f64 ug, .string ux, .int .i64 ur] 34) := ⟨_, rfl⟩
  have g4 : Grown w3 W4 := by rw [hW4]; exact Grown.alloc (Grown.refl _) _ _
  have A4 : Hid (Ac W4 w3.heap.size c ⟨uk, um, ug, ux, ur⟩) := by rw [hW4]; exact Ac.new _ _ _ _ _ _ _ _
  have V4 : Hid (Vc W4 w.heap.size ⟨k, m, g, x, r⟩) := Vc.grown V3 g4
  have G4 : Hid (Grown w W4) := Grown.trans G3 g4
  clear G1 V1 g2 g3 c0 c1 c2 c3 c4 HO' G3 V3 g4
  have q0 : (w3.alloc (.cells #[.int .i64 c, .int .i64 uk, .int .i64 um, .float .f64 ug, .string ux, .int .i64 ur] 34)).cell? ⟨w.heap.size, 0, none⟩ = some (.int .i64 k) := by rw [← hW4]; exact Vc.c0 V4
  have q1 : (w3.alloc (.cells #[.int .i64 c, .int .i64 uk, .int .i64 um, .float .f64 ug, .string ux, .int .i64 ur] 34)).cell? ⟨w.heap.size, 1, none⟩ = some (.int .i64 m) := by rw [← hW4]; exact Vc.c1 V4
  have q2 : (w3.alloc (.cells #[.int .i64 c, .int .i64 uk, .int .i64 um, .float .f64 ug, .string ux, .int .i64 ur] 34)).cell? ⟨w.heap.size, 2, none⟩ = some (.float .f64 g) := by rw [← hW4]; exact Vc.c2 V4
  have q3 : (w3.alloc (.cells #[.int .i64 c, .int .i64 uk, .int .i64 um, .float .f64 ug, .string ux, .int .i64 ur] 34)).cell? ⟨w.heap.size, 3, none⟩ = some (.string x) := by rw [← hW4]; exact Vc.c3 V4
  have q4 : (w3.alloc (.cells #[.int .i64 c, .int .i64 uk, .int .i64 um, .float .f64 ug, .string ux, .int .i64 ur] 34)).cell? ⟨w.heap.size, 4, none⟩ = some (.int .i64 r) := by rw [← hW4]; exact Vc.c4 V4
  go_wp2_with fail
  refine (HT' _).mono ?_
  rintro e w5 ⟨rfl, g5⟩
  rw [← hW4] at g5
  clear hW4 q0 q1 q2 q3 q4
  go_wp2_with fail
  refine (HI' _).mono ?_
  rintro e w6 ⟨rfl, g6⟩
  have G6 : Hid (Grown w w6) := Grown.trans G4 (Grown.trans g5 g6)
  have A6 : Hid (Ac w6 w3.heap.size c ⟨uk, um, ug, ux, ur⟩) := Ac.grown A4 (Grown.trans g5 g6)
  have G7 : Hid (Grown w (w6.alloc (.cells #[.int .i64 c, .int .i64 uk, .int .i64 um, .float .f64 ug, .string ux, .int .i64 ur] 34))) := Grown.alloc G6 _ _
  obtain ⟨d0, d1, d2, d3, d4, d5⟩ := (Ac.grown A6 (Grown.alloc (Grown.refl _) #[.int .i64 c, .int .i64 uk, .int .i64 um, .float .f64 ug, .string ux, .int .i64 ur] 34) : Ac _ w3.heap.size c ⟨uk, um, ug, ux, ur⟩)
  clear G4 A4 V4 g5 g6 HI' HT' G6 A6
  go_wp2_with fail
  refine (HE' _).mono ?_
  rintro e w8 ⟨rfl, g8⟩
  have G8 : Hid (Grown w w8) := Grown.trans G7 g8
  clear G7 g8 HE' d0 d1 d2 d3 d4 d5
  go_wp2_with fail
  go_ret
  exact ⟨rfl, G8⟩
end Go.Proofs.Ytndpgnmicikaaaa
