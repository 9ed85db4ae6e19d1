import Derived.Test.YtgocahalfanpjaaDoorWta
import Derived.Test.YtgocahalfanpjaaDoorCnd
import Derived.Shelf.Strings.SplitCore
import Derived.Shelf.Strings.Count
namespace Go.Proofs.YtgocahalfanpjaaDoor.Fo
open Go.ChangeShapes Go.WideShapes Go.ChangeAt Go.RowKit Go.Shelf
set_option linter.unusedVariables false
set_option maxRecDepth 100000
def renS : Go.Shelf.Ren := ⟨fun | 138 => 37 | 143 => 38 | 195 => 47 | 197 => 48 | 217 => 51 | 218 => 49 | 219 => 45 | 221 => 28 | 224 => 55 | 225 => 54 | 260 => 57 | 266 => 58 | 267 => 56 | 268 => 36 | 314 => 61 | n => n, fun | 0 => 0 | 3 => 3 | 4 => 4 | 5 => 5 | 9 => 9 | 21 => 21 | 31 => 27 | 46 => 74 | 51 => 78 | 105 => 70 | 119 => 81 | 138 => 83 | 139 => 84 | 146 => 79 | n => n, fun | 1 => 0 | 3 => 1 | 4 => 2 | n => n⟩
theorem laysS : Go.Proofs.Lays.n221 Tryd.prog renS := {
  mixed := by kernel_rfl
  f138 := Tryd.func37.trans (congrArg some (by kernel_rfl))
  f143 := Tryd.func38.trans (congrArg some (by kernel_rfl))
  f195 := Tryd.func47.trans (congrArg some (by kernel_rfl))
  f197 := Tryd.func48.trans (congrArg some (by kernel_rfl))
  f217 := Tryd.func51.trans (congrArg some (by kernel_rfl))
  f218 := Tryd.func49.trans (congrArg some (by kernel_rfl))
  f219 := Tryd.func45.trans (congrArg some (by kernel_rfl))
  f221 := Tryd.func28.trans (congrArg some (by kernel_rfl))
  f224 := Tryd.func55.trans (congrArg some (by kernel_rfl))
  f225 := Tryd.func54.trans (congrArg some (by kernel_rfl))
  f260 := Tryd.func57.trans (congrArg some (by kernel_rfl))
  f266 := Tryd.func58.trans (congrArg some (by kernel_rfl))
  f267 := Tryd.func56.trans (congrArg some (by kernel_rfl))
  f268 := Tryd.func36.trans (congrArg some (by kernel_rfl))
  f314 := Tryd.func61.trans (congrArg some (by kernel_rfl))
  t0 := Tryd.underlying0
  a0 := Tryd.isAgg0
  z0 := Tryd.sizeOf0
  v0 := Tryd.zeroValue0
  t3 := Tryd.underlying3
  a3 := Tryd.isAgg3
  z3 := Tryd.sizeOf3
  v3 := Tryd.zeroValue3
  t4 := Tryd.underlying4
  a4 := Tryd.isAgg4
  z4 := Tryd.sizeOf4
  v4 := Tryd.zeroValue4
  t5 := Tryd.underlying5
  a5 := Tryd.isAgg5
  z5 := Tryd.sizeOf5
  v5 := Tryd.zeroValue5
  t9 := Tryd.underlying9
  a9 := Tryd.isAgg9
  z9 := Tryd.sizeOf9
  v9 := Tryd.zeroValue9
  t21 := Tryd.underlying21
  a21 := Tryd.isAgg21
  z21 := Tryd.sizeOf21
  v21 := Tryd.zeroValue21
  t31 := Tryd.underlying27
  a31 := Tryd.isAgg27
  z31 := Tryd.sizeOf27
  v31 := Tryd.zeroValue27
  t46 := Tryd.underlying74
  a46 := Tryd.isAgg74
  z46 := Tryd.sizeOf74
  v46 := Tryd.zeroValue74
  t51 := Tryd.underlying78
  a51 := Tryd.isAgg78
  z51 := Tryd.sizeOf78
  v51 := Tryd.zeroValue78
  t105 := Tryd.underlying70
  a105 := Tryd.isAgg70
  z105 := Tryd.sizeOf70
  v105 := Tryd.zeroValue70
  t119 := Tryd.underlying81
  a119 := Tryd.isAgg81
  z119 := Tryd.sizeOf81
  t138 := Tryd.underlying83
  a138 := Tryd.isAgg83
  z138 := Tryd.sizeOf83
  v138 := Tryd.zeroValue83
  t139 := Tryd.underlying84
  a139 := Tryd.isAgg84
  z139 := Tryd.sizeOf84
  v139 := Tryd.zeroValue84
  t146 := Tryd.underlying79
  a146 := Tryd.isAgg79
  z146 := Tryd.sizeOf79
  v146 := Tryd.zeroValue79
  g1 := by kernel_rfl
  g3 := by kernel_rfl
  g4 := by kernel_rfl }

theorem im_count (l : List UInt8) (w : World) : Calls Tryd.prog 37 #[.string (bt l), .string ⟨#[47]⟩] w fun e w' => e = .returned (.int .i64 (Lib.countB (bt l) ⟨#[47]⟩)) ∧ w' = w := by
  refine (Go.Proofs.Any.strings_Count_one (ρ := renS) { laysS with } (bt l) 47 w).mono fun e w' ⟨he, hw⟩ => ⟨?_, hw⟩
  rw [he]
  show _ = Ending.returned (Value.int .i64 ((Lib.count (bt l).data.toList [47] : Nat) : Int))
  rw [Lib.count_one]
  rfl
theorem cnt_bt (l : List UInt8) : Lib.countB (bt l) ⟨#[47]⟩ + 1 = (spB l).length := by
  rw [spB_count]
  show Lib.count l [47] + 1 = _
  rw [Lib.count_one]
theorem im_gsplit (l : List UInt8) (hl : l.length ≤ 60) (w : World) : Calls Tryd.prog 28 #[.string (bt l), .string ⟨#[47]⟩, .int .i64 0, .int .i64 (-1)] w fun e w' => e = .returned (.slice (some ⟨w.heap.size, 0, none⟩) (spB l).length (spB l).length) ∧ w' = w.alloc (.cells (stv (spB l)).toArray 9) := by
  have hb := bt_size l
  have hc := cnt_bt l
  have hL := spB_len l
  have h := Go.Proofs.Any.strings_genSplit_core (ρ := renS) laysS (by kernel_rfl) (bt l) ⟨#[47]⟩ 0 (-1) (spB l).length w (by omega) (Nat.le_refl 1) (Nat.zero_le _) (fun x c hx => by
    have := im_index x.data.toList (by rw [← Lib.size_eq]; omega) (w.alloc (.cells c 9))
    rw [bt_eq] at this
    refine this.mono fun e w' ⟨he, hw⟩ => ⟨?_, hw⟩
    rw [he]
    have e1 := ixB_bt x.data.toList
    rw [bt_eq] at e1
    rw [e1]) (im_count l w) (by decide) (by decide) (by rw [if_pos (by decide)]; omega)
  have hp : 0 < (spB l).length := List.length_pos_iff.2 (spB_ne l)
  rw [splitB_sp ((spB l).length - 1) l (by omega)] at h
  refine h.mono fun e w' ⟨he, hw⟩ => ⟨?_, ?_⟩
  · rw [he, List.length_map]
  · rw [hw]
    have e2 : Lib.cellsOf ((spB l).map bt) (spB l).length = (stv (spB l)).toArray := by
      have := Lib.cellsOf_full ((spB l).map bt)
      rw [List.length_map] at this
      rw [this]
      unfold stv
      rw [List.map_map]
      rfl
    rw [e2]
    rfl
theorem own_new (w : World) (l : List UInt8) (hl : l.length ≤ 60) : (w.alloc (.cells (stv (spB l)).toArray 9)).ownsRow w.heap.size 9 1 (.slice (some ⟨w.heap.size, 0, none⟩) (spB l).length (spB l).length) (spB l).length (stv (spB l)) := by
  refine ⟨by rw [stv_len]; omega, .inr ⟨w.heap.size, (spB l).length, (stv (spB l)).toArray, rfl, Nat.le_refl _, alloc_new _ _ _, Nat.le_refl _, by have := spB_len l; unfold maxLen; omega, by simp [stv_len], ?_⟩⟩
  rw [Nat.mul_one]
  show (stv (spB l)).take (spB l).length = _
  rw [← stv_len (spB l), List.take_length]
set_option maxHeartbeats 16000000 in
theorem im_split (l : List UInt8) (hl : l.length ≤ 60) (w : World) : Calls Tryd.prog 19 #[.string (bt l), .string ⟨#[47]⟩] w fun e w' => ∃ g n c, e = .returned (.slice (some ⟨g, 0, none⟩) (n + 1) c) ∧ n + 1 = (spB l).length ∧ n + 1 ≤ c ∧ w'.ownsRow w.heap.size 9 1 (.slice (some ⟨g, 0, none⟩) (spB l).length c) (spB l).length (stv (spB l)) ∧ Kb 0 w w' := by
  have h := im_gsplit l hl w
  have hp : 0 < (spB l).length := List.length_pos_iff.2 (spB_ne l)
  obtain ⟨n, hn⟩ : ∃ n, n + 1 = (spB l).length := ⟨(spB l).length - 1, by omega⟩
  have HF : Hid ((w.alloc (.cells (stv (spB l)).toArray 9)).ownsRow w.heap.size 9 1 (.slice (some ⟨w.heap.size, 0, none⟩) (spB l).length (spB l).length) (spB l).length (stv (spB l))) := (own_new w l hl : _)
  have HN : Hid (n + 1 = (spB l).length) := hn
  obtain ⟨L, hL⟩ : ∃ L, L = (spB l).length := ⟨_, rfl⟩
  obtain ⟨C, hC⟩ : ∃ C, C = (stv (spB l)).toArray := ⟨_, rfl⟩
  rw [← hL, ← hC] at h
  have HL : Hid (L = (spB l).length ∧ C = (stv (spB l)).toArray) := (⟨hL, hC⟩ : _ ∧ _)
  clear hp hn hL hC
  go_enter Tryd.func19, Tryd.ntmps19
  go_wp2_with fail
  refine h.mono ?_
  rintro e w' ⟨rfl, rfl⟩
  clear h
  go_wp2_with fail
  go_ret
  refine ⟨w.heap.size, n, L, ?_, HN, by rw [(show _ ∧ _ from HL).1]; exact Nat.le_of_eq HN, ?_, kb_alloc _ _ _⟩
  · rw [show n + 1 = L from (show n + 1 = _ from HN).trans (show _ ∧ _ from HL).1.symm]
    rfl
  · rw [(show _ ∧ _ from HL).1, (show _ ∧ _ from HL).2]
    exact HF
end Go.Proofs.YtgocahalfanpjaaDoor.Fo
