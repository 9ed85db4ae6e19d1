import Derived.Test.YtdgainfmidoemaaMPai
import Derived.Test.YtdgainfmidoemaaMPaj
namespace Go.Proofs.Ytdgainfmidoemaa.Fo
open Go.ChangeShapes Go.WideShapes Go.ChangeAt Go.RowKit
set_option linter.unusedVariables false
set_option maxRecDepth 100000
theorem own_an {W0 W : World} {v : Value} {l : List Int} (h : W.ownsRow W0.heap.size 5 1 v l.length (bvs l)) : ∃ g, An W0 W v l.length (fun i => l.getD i 0) g := by
  obtain ⟨p, cap, hp⟩ := own_shape h
  by_cases hn : 0 < l.length
  · obtain ⟨g, cap', cur, e, e2, hB, hlt, hcap, hcur, hcell⟩ := own_blk h hn
    rw [hp] at e
    injection e with e3 _ e4
    refine ⟨g, ⟨⟨p, cap, hp, fun _ => ⟨e3, by omega⟩⟩, fun i hi => ?_, fun _ j => frozen_of hcur⟩, fun _ => ⟨hB, hlt⟩⟩
    rw [hcell i (by omega)]
    unfold bvs
    show _ = some (Value.int .u8 (l.getD i 0))
    rw [List.getElem?_map, List.getD_eq_getElem?_getD, List.getElem?_eq_getElem hi]
    rfl
  · exact ⟨0, ⟨⟨p, cap, hp, fun q => absurd q hn⟩, fun i hi => absurd hi (by omega), fun q => absurd q hn⟩, fun q => by omega⟩
theorem pck_len (n : Nat) (F : Nat → Td) (a : Gv) : (pck n F a).length ≤ 8192 := by
  unfold pck
  by_cases h : Gok n F a ∧ (pfl n F a).length ≤ 8192
  · rw [dc_t h, if_pos rfl]; exact h.2
  · rw [dc_f h]; simp
end Go.Proofs.Ytdgainfmidoemaa.Fo
