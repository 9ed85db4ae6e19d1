import Derived.Test.YtfpidccjcemcjaaUae
namespace Go.Proofs.Ytfpidccjcemcjaa
open Go.ChangeShapes Go.WideShapes Go.ChangeAt Go.RowKit
set_option linter.unusedVariables false
set_option maxRecDepth 100000
/-- the six cells of an answer in block B -/
structure Ac (W : World) (B : Nat) (c : Int) (v : Vv) : Prop where
  c0 : W.cell? ⟨B, 0, none⟩ = some (.int .i64 c)
  c1 : W.cell? ⟨B, 1, none⟩ = some (.int .i64 v.k)
  c2 : W.cell? ⟨B, 2, none⟩ = some (.int .i64 v.m)
  c3 : W.cell? ⟨B, 3, none⟩ = some (.float .f64 v.g)
  c4 : W.cell? ⟨B, 4, none⟩ = some (.string v.x)
  c5 : W.cell? ⟨B, 5, none⟩ = some (.int .i64 v.r)
theorem Ac.new (w : World) (c k m : Int) (g : Nat) (x : ByteArray) (r : Int) (t : TypeId) : Ac (w.alloc (.cells #[.int .i64 c, .int .i64 k, .int .i64 m, .float .f64 g, .string x, .int .i64 r] t)) w.heap.size c ⟨k, m, g, x, r⟩ := by
  constructor <;> (rw [World.cell?_alloc_at _ _ _ _ rfl]; rfl)
theorem Ac.grown {a w : World} {B : Nat} {c : Int} {v : Vv} (h : Ac a B c v) (g : Grown a w) : Ac w B c v := by
  have hl : B < a.heap.size := by
    have := h.c0
    unfold World.cell? at this
    cases hh : a.heap[B]? with
    | none => simp [hh] at this
    | some o => exact (Array.getElem?_eq_some_iff.1 hh).1
  have e : ∀ j, w.cell? ⟨B, j, none⟩ = a.cell? ⟨B, j, none⟩ := fun j => World.cell?_of_block (grown_block g hl)
  exact ⟨(e _).trans h.c0, (e _).trans h.c1, (e _).trans h.c2, (e _).trans h.c3, (e _).trans h.c4, (e _).trans h.c5⟩
theorem Ac.kq {a w : World} {B : Nat} {c : Int} {v : Vv} (h : Ac a B c v) (g : Kq a w) : Ac w B c v := ⟨g.cell h.c0, g.cell h.c1, g.cell h.c2, g.cell h.c3, g.cell h.c4, g.cell h.c5⟩
set_option maxHeartbeats 2000000 in
theorem law_key (v : Vv) (hb : Vb v) (w : World) : Calls Try.prog 3 #[vv v] w fun e w' => e = .returned (.bool true) ∧ Kq w w' := by
  have HS := fun w => sz_val v 1048576 (by omega) hb.x w
  by_cases hs : (v.x.size : Int) ≤ 1048576
  case neg =>
    rw [if_neg hs] at HS
    obtain ⟨k, m, g, x, r⟩ := v
    unfold vv at HS ⊢
    dsimp only at HS hs ⊢
    clear hb
    go_enter Try.func3, Try.ntmps3
    go_wp2_with fail
    refine (HS _).mono ?_
    rintro e w1 ⟨rfl, g1⟩
    have G1 : Hid (Grown w w1) := Grown.trans (by go_grown) g1
    clear g1 HS
    go_wp2_with fail
    go_ret
    exact ⟨rfl, .of_grown G1⟩
  rw [if_pos hs] at HS
  obtain ⟨c, ⟨uk, um, ug, ux, ur⟩, hy⟩ := ky_ex v
  have hu := hy.glt hb.g
  have HO := fun w => sp_key hy hs hb.g w
  have HI := fun w => im_key hy hs hb.g w
  have HE := fun w => eq_valued c ⟨uk, um, ug, ux, ur⟩ hu w
  have HT := fun w => to_val v w
  obtain ⟨k, m, g, x, r⟩ := v
  unfold vv at HS HO HI HT ⊢
  unfold va at HO HI HE
  dsimp only at HS HO HI HT HE hs ⊢
  have hs2 : ¬ 1048576 - (x.size : Int) < 0 := by omega
  have hst : ∀ (a : Addr) (n : Nat) (m : Mode) (w : World), (store a (.float .f64 n) m).run Try.prog w = stored Try.prog w a (.float .f64 n) m := fun a n m w => run_store _ _ _ _ _ rfl
  clear hb hs hu hy
  have HS' : Hid (∀ w, _) := HS
  have HO' : Hid (∀ w, _) := HO
  have HI' : Hid (∀ w, _) := HI
  have HT' : Hid (∀ w, _) := HT
  have HE' : Hid (∀ w, _) := HE
  clear HS HO HI HT HE
  go_enter Try.func3, Try.ntmps3
  go_wp2_with fail
  refine (HS' _).mono ?_
  rintro e w1 ⟨rfl, g1⟩
  have G1 : Hid (Grown w w1) := Grown.trans (by go_grown) g1
  have V1 : Hid (Vc w1 w.heap.size ⟨k, m, g, x, r⟩) := (Vc.new w k m g x r 24).grown g1
  obtain ⟨c0, c1, c2, c3, c4⟩ := (show Vc w1 w.heap.size ⟨k, m, g, x, r⟩ from V1)
  clear g1 HS'
  go_wp2_with fail
  refine (HT' _).mono ?_
  rintro e w2 ⟨rfl, g2⟩
  go_wp2_with fail
  refine (HO' _).mono ?_
  rintro e w3 ⟨rfl, g3⟩
  have G3 : Hid (Kq w w3) := Kq.trans (.of_grown (Grown.trans G1 g2)) g3
  have V3 : Hid (Vc w3 w.heap.size ⟨k, m, g, x, r⟩) := Vc.kq (Vc.grown V1 g2) g3
  obtain ⟨W4, hW4⟩ : ∃ W4, W4 = w3.alloc (.cells #[.int .i64 c, .int .i64 uk, .int .i64 um, .float .f64 ug, .string ux, .int .i64 ur] 28) := ⟨_, rfl⟩
  have g4 : Grown w3 W4 := by rw [hW4]; exact Grown.alloc (Grown.refl _) _ _
  have A4 : Hid (Ac W4 w3.heap.size c ⟨uk, um, ug, ux, ur⟩) := by rw [hW4]; exact Ac.new _ _ _ _ _ _ _ _
  have V4 : Hid (Vc W4 w.heap.size ⟨k, m, g, x, r⟩) := Vc.grown V3 g4
  have G4 : Hid (Kq w W4) := Kq.trans G3 (.of_grown g4)
  clear G1 V1 g2 g3 c0 c1 c2 c3 c4 HO' G3 V3 g4
  have q0 : (w3.alloc (.cells #[.int .i64 c, .int .i64 uk, .int .i64 um, .float .f64 ug, .string ux, .int .i64 ur] 28)).cell? ⟨w.heap.size, 0, none⟩ = some (.int .i64 k) := by rw [← hW4]; exact Vc.c0 V4
  have q1 : (w3.alloc (.cells #[.int .i64 c, .int .i64 uk, .int .i64 um, .float .f64 ug, .string ux, .int .i64 ur] 28)).cell? ⟨w.heap.size, 1, none⟩ = some (.int .i64 m) := by rw [← hW4]; exact Vc.c1 V4
  have q2 : (w3.alloc (.cells #[.int .i64 c, .int .i64 uk, .int .i64 um, .float .f64 ug, .string ux, .int .i64 ur] 28)).cell? ⟨w.heap.size, 2, none⟩ = some (.float .f64 g) := by rw [← hW4]; exact Vc.c2 V4
  have q3 : (w3.alloc (.cells #[.int .i64 c, .int .i64 uk, .int .i64 um, .float .f64 ug, .string ux, .int .i64 ur] 28)).cell? ⟨w.heap.size, 3, none⟩ = some (.string x) := by rw [← hW4]; exact Vc.c3 V4
  have q4 : (w3.alloc (.cells #[.int .i64 c, .int .i64 uk, .int .i64 um, .float .f64 ug, .string ux, .int .i64 ur] 28)).cell? ⟨w.heap.size, 4, none⟩ = some (.int .i64 r) := by rw [← hW4]; exact Vc.c4 V4
  go_wp2_with fail
  refine (HT' _).mono ?_
  rintro e w5 ⟨rfl, g5⟩
  rw [← hW4] at g5
  clear hW4 q0 q1 q2 q3 q4
  go_wp2_with fail
  refine (HI' _).mono ?_
  rintro e w6 ⟨rfl, g6⟩
  have G6 : Hid (Kq w w6) := Kq.trans G4 (Kq.trans (.of_grown g5) g6)
  have A6 : Hid (Ac w6 w3.heap.size c ⟨uk, um, ug, ux, ur⟩) := Ac.kq (Ac.grown A4 g5) g6
  have G7 : Hid (Kq w (w6.alloc (.cells #[.int .i64 c, .int .i64 uk, .int .i64 um, .float .f64 ug, .string ux, .int .i64 ur] 28))) := Kq.trans G6 (.of_grown (Grown.alloc (Grown.refl _) _ _))
  obtain ⟨d0, d1, d2, d3, d4, d5⟩ := (Ac.grown A6 (Grown.alloc (Grown.refl _) #[.int .i64 c, .int .i64 uk, .int .i64 um, .float .f64 ug, .string ux, .int .i64 ur] 28) : Ac _ w3.heap.size c ⟨uk, um, ug, ux, ur⟩)
  clear G4 A4 V4 g5 g6 HI' HT' G6 A6
  go_wp2_with fail
  refine (HE' _).mono ?_
  rintro e w8 ⟨rfl, g8⟩
  have G8 : Hid (Kq w w8) := Kq.trans G7 (.of_grown g8)
  clear G7 g8 HE' d0 d1 d2 d3 d4 d5
  go_wp2_with fail
  go_ret
  exact ⟨rfl, G8⟩
theorem val_stays_kq {H : Type} {enc : TypeId × Value → H} {W W' : World} {v : Value} {d : DataW H} {p : List MemPlace} (h : DataW.Trod enc Try.prog W 0 (fun _ => true) true 24 v d p) (hlt : ∀ x ∈ p, x.block < W.heap.size) (hg : Kq W W') : DataW.Trod enc Try.prog W' 0 (fun b => decide (b < W.heap.size)) true 24 v d p := by
  obtain ⟨fuel, hf⟩ := h
  refine ⟨fuel, DataW.trod_stays (kids_book laidOut rVal.1) (book_sized rVal.1) (fun h => by cases h) ⟨rVal.2, book_self 24⟩ hf (fun x hx => ?_) (fun x hx => by simpa using hlt x hx)⟩
  have hb := hlt x hx
  cases x with
  | cell b o => exact World.cell?_of_block (w := W) (hg.block b hb)
  | map b => exact hg.block b hb
end Go.Proofs.Ytfpidccjcemcjaa
