import Derived.Test.YtogenhnonjkanaaDoorRaf
namespace Go.Proofs.YtogenhnonjkanaaDoor.Rd
open Go.ChangeShapes Go.WideShapes Go.ChangeAt Go.RowKit Go.Proofs.YtogenhnonjkanaaDoor
set_option linter.unusedVariables false
theorem range_err (fn s : ByteArray) (hC : ∀ w, Calls Tryd.prog 89 #[.string s] w fun e w' => e = .returned (.string s) ∧ Below w.heap.size w w') (te : TypeId) (pe : Value) (w : World) (hv : w.cell? ⟨7, 0, none⟩ = some (.iface te pe)) :
    Calls Tryd.prog 102 #[.string fn, .string s] w fun e w' => (∃ a, e = .returned (.pointer (some a))) ∧ Below w.heap.size w w' := by
  have hG : 7 < w.heap.size := lt_of_cell hv
  have hvd : w.drew.cell? ⟨7, 0, none⟩ = some (.iface te pe) := hv
  go_enter Tryd.func102, Tryd.ntmps102
  go_wp2
  go_region_with (
      go_at_call 89
      refine (hC _).mono ?_
      rintro e w2 ⟨rfl, hbel⟩
      have hv2 : w2.cell? ⟨7, 0, none⟩ = some (.iface te pe) := (hbel.cell (show 7 < w.drew.heap.size from hG)).trans hvd)
  all_goals (
    go_wp2
    go_ret
    have hs2 : w.heap.size ≤ w2.heap.size := hbel.size
    exact ⟨⟨_, rfl⟩, ((Below.drew (Below.refl _ w)).trans hbel).alloc hs2 _⟩)
theorem eql12 (W : World) : (binOp .eql 71 (.iface 112 (.int .i64 1)) (.iface 112 (.int .i64 2))).run Tryd.prog W = .ok (.bool false) W :=
  Lib.run_eql_iface_int W 1 2 Tryd.underlying71 (by kernel_rfl) Tryd.underlying112
theorem eql11 (W : World) : (binOp .eql 71 (.iface 112 (.int .i64 1)) (.iface 112 (.int .i64 1))).run Tryd.prog W = .ok (.bool true) W :=
  Lib.run_eql_iface_int W 1 1 Tryd.underlying71 (by kernel_rfl) Tryd.underlying112
theorem to_err (fn s : ByteArray) (b c : Int) (hC : ∀ w, Calls Tryd.prog 89 #[.string s] w fun e w' => e = .returned (.string s) ∧ Below w.heap.size w w') (te : TypeId) (pe : Value) (w : World) (hv : w.cell? ⟨7, 0, none⟩ = some (.iface te pe)) :
    Calls Tryd.prog 97 #[.string fn, .string s, .int .i64 b, .int .i64 c, .iface 112 (.int .i64 1)] w fun e w' => (∃ t v, e = .returned (.iface t v)) ∧ Below w.heap.size w w' := by
  have h35 := range_err fn s hC te pe w hv
  have hq12 := eql12
  have hq11 := eql11
  clear hC hv
  go_enter Tryd.func97, Tryd.ntmps97
  go_wp2_with fail
  refine h35.mono ?_
  rintro e w2 ⟨⟨a, rfl⟩, hb⟩
  clear h35
  go_wp2_with fail
  go_ret
  exact ⟨⟨_, _, rfl⟩, hb⟩
theorem parse22 (b : Nat) (T : ByteArray) (p : Int × Int) (H27 : ∀ w, Calls Tryd.prog 98 #[.string T, .int .i64 b, .int .i64 64] w fun e w' => Told27 p e ∧ Below w.heap.size w w')
    (hC : ∀ w, Calls Tryd.prog 89 #[.string T] w fun e w' => e = .returned (.string T) ∧ Below w.heap.size w w') (te : TypeId) (pe : Value) (w : World) (hv : w.cell? ⟨7, 0, none⟩ = some (.iface te pe)) :
    Calls Tryd.prog 92 #[.string T, .int .i64 (b : Int), .int .i64 64] w fun e w' => Told22 p e ∧ Below w.heap.size w w' := by
  have h27 := H27 w
  clear H27
  go_enter Tryd.func92, Tryd.ntmps92
  go_wp2_with fail
  refine h27.mono ?_
  rintro e w2 ⟨ht, hb⟩
  clear h27
  cases ht with
  | ok h =>
    clear hC hv
    go_wp2_with fail
    go_ret2
    exact ⟨Told22.ok h, hb⟩
  | err h s =>
    have h28 := fun fn => to_err fn T (b : Int) 64 hC te pe w2 ((hb.cell (show 7 < w.heap.size from lt_of_cell hv)).trans hv)
    clear hC hv
    go_wp2_with fail
    refine (h28 _).mono ?_
    rintro e w3 ⟨⟨t, v, rfl⟩, hb2⟩
    clear h28
    go_wp2_with fail
    go_ret2
    exact ⟨Told22.err h _ _ _, hb.trans ⟨hb2.os, hb2.tape, hb2.output, hb2.size, fun k hk => hb2.block k (Nat.lt_of_lt_of_le hk hb.size)⟩⟩
end Go.Proofs.YtogenhnonjkanaaDoor.Rd
