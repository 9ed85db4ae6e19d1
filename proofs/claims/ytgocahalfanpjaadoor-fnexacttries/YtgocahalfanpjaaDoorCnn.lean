import Derived.Test.YtgocahalfanpjaaDoorCne
import Derived.Shelf.Strings.OnBuilder
import Derived.Shelf.Pu.Clone
namespace Go.Proofs.YtgocahalfanpjaaDoor.Fo
open Go.ChangeShapes Go.WideShapes Go.ChangeAt Go.RowKit Go.Shelf
set_option linter.unusedVariables false
set_option maxRecDepth 100000
def renJ : Go.Shelf.Ren := ⟨fun | 156 => 32 | 165 => 42 | 166 => 43 | 169 => 44 | 240 => 52 | 241 => 53 | 276 => 59 | 277 => 60 | n => n, fun | 0 => 0 | 3 => 3 | 4 => 4 | 5 => 5 | 9 => 9 | 20 => 20 | 31 => 27 | 37 => 53 | 70 => 59 | 72 => 61 | 75 => 64 | 76 => 65 | 80 => 67 | 127 => 72 | 164 => 75 | n => n, fun  | n => n⟩
theorem laysJ : Go.Proofs.Lays.n156 Tryd.prog renJ := {
  mixed := by kernel_rfl
  f156 := Tryd.func32.trans (congrArg some (by kernel_rfl))
  f165 := Tryd.func42.trans (congrArg some (by kernel_rfl))
  f166 := Tryd.func43.trans (congrArg some (by kernel_rfl))
  f169 := Tryd.func44.trans (congrArg some (by kernel_rfl))
  f240 := Tryd.func52.trans (congrArg some (by kernel_rfl))
  f241 := Tryd.func53.trans (congrArg some (by kernel_rfl))
  f276 := Tryd.func59.trans (congrArg some (by kernel_rfl))
  f277 := Tryd.func60.trans (congrArg some (by kernel_rfl))
  t0 := Tryd.underlying0
  a0 := Tryd.isAgg0
  z0 := Tryd.sizeOf0
  v0 := Tryd.zeroValue0
  t3 := Tryd.underlying3
  a3 := Tryd.isAgg3
  z3 := Tryd.sizeOf3
  v3 := Tryd.zeroValue3
  t4 := Tryd.underlying4
  a4 := Tryd.isAgg4
  z4 := Tryd.sizeOf4
  v4 := Tryd.zeroValue4
  t9 := Tryd.underlying9
  a9 := Tryd.isAgg9
  z9 := Tryd.sizeOf9
  v9 := Tryd.zeroValue9
  t20 := Tryd.underlying20
  a20 := Tryd.isAgg20
  z20 := Tryd.sizeOf20
  v20 := Tryd.zeroValue20
  t31 := Tryd.underlying27
  a31 := Tryd.isAgg27
  z31 := Tryd.sizeOf27
  v31 := Tryd.zeroValue27
  t37 := Tryd.underlying53
  a37 := Tryd.isAgg53
  z37 := Tryd.sizeOf53
  v37 := Tryd.zeroValue53
  t70 := Tryd.underlying59
  a70 := Tryd.isAgg59
  z70 := Tryd.sizeOf59
  v70 := Tryd.zeroValue59
  t72 := Tryd.underlying61
  a72 := Tryd.isAgg61
  z72 := Tryd.sizeOf61
  v72 := Tryd.zeroValue61
  t75 := Tryd.underlying64
  a75 := Tryd.isAgg64
  z75 := Tryd.sizeOf64
  v75 := Tryd.zeroValue64
  t76 := Tryd.underlying65
  a76 := Tryd.isAgg65
  z76 := Tryd.sizeOf65
  v76 := Tryd.zeroValue65
  t127 := Tryd.underlying72
  a127 := Tryd.isAgg72
  z127 := Tryd.sizeOf72
  v127 := Tryd.zeroValue72
  t164 := Tryd.underlying75
  a164 := Tryd.isAgg75
  z164 := Tryd.sizeOf75
  v164 := Tryd.zeroValue75 }
theorem extraJ : Builder.Extra Tryd.prog renJ := {
  sizeBuilder := by kernel_rfl
  liesBuilder := by kernel_rfl
  t5 := Tryd.underlying5
  a5 := Tryd.isAgg5
  z5 := Tryd.sizeOf5
  v5 := Tryd.zeroValue5
  infoByte := by kernel_rfl
  cellsByte := by kernel_rfl
  sizeByte := by kernel_rfl
  neB5 := by decide }
def renC : Go.Shelf.Ren := ⟨fun | 25 => 41 | n => n, fun | 0 => 0 | 3 => 3 | 4 => 4 | 5 => 5 | 9 => 9 | 37 => 53 | 47 => 72 | n => n, fun | n => n⟩
theorem laysC : Go.Proofs.LaysPu.n25 Tryd.prog renC := {
  mixed := by kernel_rfl
  f25 := Tryd.func41.trans (congrArg some (by kernel_rfl))
  t0 := Tryd.underlying0
  a0 := Tryd.isAgg0
  z0 := Tryd.sizeOf0
  v0 := Tryd.zeroValue0
  i0 := by kernel_rfl
  t3 := Tryd.underlying3
  a3 := Tryd.isAgg3
  z3 := Tryd.sizeOf3
  v3 := Tryd.zeroValue3
  i3 := by kernel_rfl
  t4 := Tryd.underlying4
  a4 := Tryd.isAgg4
  z4 := Tryd.sizeOf4
  v4 := Tryd.zeroValue4
  i4 := by kernel_rfl
  t5 := Tryd.underlying5
  a5 := Tryd.isAgg5
  z5 := Tryd.sizeOf5
  v5 := Tryd.zeroValue5
  i5 := by kernel_rfl
  t9 := Tryd.underlying9
  a9 := Tryd.isAgg9
  z9 := Tryd.sizeOf9
  v9 := Tryd.zeroValue9
  i9 := by kernel_rfl
  t37 := Tryd.underlying53
  a37 := Tryd.isAgg53
  z37 := Tryd.sizeOf53
  v37 := Tryd.zeroValue53
  i37 := by kernel_rfl
  t47 := Tryd.underlying72
  a47 := Tryd.isAgg72
  z47 := Tryd.sizeOf72
  v47 := Tryd.zeroValue72
  i47 := by kernel_rfl }
theorem kb_below {w w' : World} (h : Below w.heap.size w w') : Kb 0 w w' := ⟨h.os, h.output, h.size, fun i _ hi => h.block i hi⟩
theorem join_jn (L : List (List UInt8)) : Lib.join L [47] = jn L := by
  induction L with
  | nil => rfl
  | cons a r ih =>
    cases r with
    | nil => rw [Lib.join_one]; rfl
    | cons b s =>
      rw [jn, ← ih, Lib.join_cons, Lib.join_cons, Lib.joinTail, Lib.joinTail]
      simp
theorem im_join {pv : Option Addr} {cv B : Nat} {row : List (List UInt8)} (w : World) (h : w.ownsRow B 9 1 (.slice pv row.length cv) row.length (stv row)) (h0 : row ≠ []) (hp : ∀ p ∈ row, p.length ≤ 60) (hl : row.length ≤ 200) :
    Calls Tryd.prog 32 #[.slice pv row.length cv, .string ⟨#[47]⟩] w fun e w' => e = .returned (.string (bt (jn row))) ∧ Kb 0 w w' := by
  obtain ⟨g, cap, e0, _, hlt⟩ := h.form (List.length_pos_iff.2 h0)
  obtain ⟨p', c', e1, hr⟩ := rowt_own h
  injection e0 with e01 _ e03
  injection e1 with e11 _ e13
  subst e01
  subst e03
  subst e11
  subst e13
  obtain ⟨a, ea, hc, hcel⟩ := hr (List.length_pos_iff.2 h0)
  injection ea with ea
  subst ea
  have em : ((row.map bt).map (·.data.toList)) = row := by
    rw [List.map_map]
    conv => rhs; rw [← List.map_id row]
    rfl
  have hJ := Any.strings_Join laysJ extraJ g 0 cv (row.map bt) ⟨#[47]⟩ w (fun j x hx => by
    rw [List.getElem?_map] at hx
    have h9 := hcel j (.string x) (by
      unfold stv
      rw [List.getElem?_map]
      cases hj : row[j]? with
      | none => rw [hj] at hx; cases hx
      | some p => rw [hj] at hx; cases hx; rfl)
    rw [addr0] at h9
    rw [Nat.zero_add]
    exact h9) hlt (by rw [List.length_map]; omega) (by rw [List.length_map]; exact hc) (by
      rw [em, show (⟨#[47]⟩ : ByteArray).data.toList = [47] from rfl, join_jn]
      have := jn_len hp
      omega)
  rw [em, List.length_map, show (⟨#[47]⟩ : ByteArray).data.toList = [47] from rfl, join_jn] at hJ
  exact hJ.mono (fun e w' q => ⟨q.1, kb_below q.2⟩)
set_option maxHeartbeats 4000000 in
theorem im_clone (l : List UInt8) (hl : l.length ≤ 100000) (w : World) : Calls Tryd.prog 31 #[.string (bt l)] w fun e w' => e = .returned (.string (bt l)) ∧ Kb 0 w w' := by
  have h : Calls Tryd.prog 41 #[.string (bt l)] w fun e w' => e = .returned (.string (bt l)) ∧ Below w.heap.size w w' := AnyPu.stringslite_Clone laysC (bt l) w (by rw [bt_size]; omega)
  go_enter Tryd.func31, Tryd.ntmps31
  go_wp2_with fail
  refine h.mono ?_
  rintro e w' ⟨rfl, hb⟩
  go_wp2_with fail
  go_ret
  exact ⟨rfl, kb_below hb⟩
end Go.Proofs.YtgocahalfanpjaaDoor.Fo
