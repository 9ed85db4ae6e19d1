import Derived.Test.YtladepgpandklaaDoorVcg
namespace Go.Proofs.YtladepgpandklaaDoor
open Go.ChangeShapes Go.WideShapes Go.ChangeAt Go.RowKit
set_option linter.unusedVariables false
set_option maxRecDepth 100000
set_option maxHeartbeats 2000000 in
theorem law_text (v : Vv) (hb : Vb v) (w : World) (hT : Tb w) : Calls Tryd.prog 3 #[vv v] w fun e w' => e = .returned (.bool true) ∧ Kq w w' := by
  have HS := fun w => sz_val v 1048576 (by omega) hb.x w
  by_cases hs : (v.x.size : Int) ≤ 1048576
  case neg =>
    rw [if_neg hs] at HS
    obtain ⟨k, m, g, x, r⟩ := v
    unfold vv at HS ⊢
    dsimp only at HS hs ⊢
    clear hb
    go_enter Tryd.func3, Tryd.ntmps3
    go_wp2_with fail
    refine (HS _).mono ?_
    rintro e w1 ⟨rfl, g1⟩
    have G1 : Hid (Grown w w1) := Grown.trans (by go_grown) g1
    clear g1 HS
    go_wp2_with fail
    go_ret
    exact ⟨rfl, .of_grown G1⟩
  rw [if_pos hs] at HS
  obtain ⟨T, _, HO, HI⟩ := text_both v hb hs
  have HT := fun w => to_val v w
  obtain ⟨k, m, g, x, r⟩ := v
  unfold vv at HS HO HI HT ⊢
  dsimp only at HS HO HI HT hs ⊢
  have hs2 : ¬ 1048576 - (x.size : Int) < 0 := by omega
  have hrr : (T.toList != T.toList) = false := by simp
  clear hb hs
  have HS' : Hid (∀ w, _) := HS
  have HO' : Hid (∀ w, _) := HO
  have HI' : Hid (∀ w, Tb w → _) := HI
  have HT' : Hid (∀ w, _) := HT
  have HTB : Hid (Tb w) := hT
  clear HS HO HI HT hT
  go_enter Tryd.func3, Tryd.ntmps3
  go_wp2_with fail
  refine (HS' _).mono ?_
  rintro e w1 ⟨rfl, g1⟩
  have G1 : Hid (Grown w w1) := Grown.trans (by go_grown) g1
  have V1 : Vc w1 w.heap.size ⟨k, m, g, x, r⟩ := (Vc.new w k m g x r 24).grown g1
  obtain ⟨c0, c1, c2, c3, c4⟩ := V1
  clear g1 HS'
  go_wp2_with fail
  refine (HT' _).mono ?_
  rintro e w2 ⟨rfl, g2⟩
  go_wp2_with fail
  refine (HO' _).mono ?_
  rintro e w3 ⟨rfl, g3⟩
  have G3 : Hid (Grown w w3) := Grown.trans G1 (Grown.trans g2 g3)
  obtain ⟨d0, d1, d2, d3, d4⟩ := (show Vc w1 w.heap.size ⟨k, m, g, x, r⟩ from ⟨c0, c1, c2, c3, c4⟩).grown (Grown.trans g2 g3)
  clear G1 g2 g3 c0 c1 c2 c3 c4 HO'
  go_wp2_with fail
  refine (HT' _).mono ?_
  rintro e w4 ⟨rfl, g4⟩
  have G4 : Hid (Kq w w4) := .of_grown (Grown.trans G3 g4)
  clear g4 G3
  go_wp2_with fail
  refine (HI' _ (Tb.kq HTB G4)).mono ?_
  rintro e w5 ⟨rfl, g5⟩
  have G5 : Hid (Kq w w5) := Kq.trans G4 g5
  clear G4 g5 d0 d1 d2 d3 d4 HI' HT'
  go_wp2_with fail
  go_ret
  exact ⟨rfl, G5⟩
theorem val_stays_kq {H : Type} {enc : TypeId × Value → H} {W W' : World} {v : Value} {d : DataW H} {p : List MemPlace} (h : DataW.Trod enc Tryd.prog W 0 (fun _ => true) true 24 v d p) (hlt : ∀ x ∈ p, x.block < W.heap.size) (hg : Kq W W') : DataW.Trod enc Tryd.prog W' 0 (fun b => decide (b < W.heap.size)) true 24 v d p := by
  obtain ⟨fuel, hf⟩ := h
  refine ⟨fuel, DataW.trod_stays (kids_book laidOut rVal.1) (book_sized rVal.1) (fun h => by cases h) ⟨rVal.2, book_self 24⟩ hf (fun x hx => ?_) (fun x hx => by simpa using hlt x hx)⟩
  have hb := hlt x hx
  cases x with
  | cell b o => exact World.cell?_of_block (w := W) (hg.block b hb)
  | map b => exact hg.block b hb
end Go.Proofs.YtladepgpandklaaDoor
