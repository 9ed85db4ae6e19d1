import Derived.Test.YtfpidccjcemcjaaRows
import Derived.Test.YtfpidccjcemcjaaUeb
import Derived.Test.YtfpidccjcemcjaaUiz
namespace Go.Proofs.Ytfpidccjcemcjaa.fnExactPut
open Go.ChangeShapes Go.WideShapes Go.ChangeAt Go.RowKit
set_option linter.unusedVariables false
theorem own : ownKnob Try.prog.godebug = none := by kernel_rfl
set_option maxRecDepth 100000 in
set_option maxHeartbeats 4000000 in
theorem lifted (os : Os) (started : os.Started) (H : Type) (enc : TypeId × Value → H) :
    ReturnsInHanded {} Try.checked os 6 .any (Rows.fnExactPutSpec.pre6 enc Try.prog Try.f6 Rows.fnExactPutRow.domain false) (Rows.fnExactPutSpec.post enc Try.prog Try.f6 false true false false) := by
  refine returnsInHanded_of_change_sized (C := Try.checked) own started (by kernel_rfl) Try.func6
    (ChangeSpec.witness6 (enc := enc) (C := Try.checked) false ⟨#[], #[.agg #[.slice none 0 0, .int .i64 0], vv ⟨0, 0, 0, ⟨#[]⟩, 0⟩, vv ⟨0, 0, 0, ⟨#[]⟩, 0⟩], []⟩ 8 (by kernel_rfl) (by kernel_rfl) (by kernel_rfl) (by kernel_rfl)) ?_
  intro W base args ds gs before hval0 hW _ hsz0 _
  have hsz : (DataW.weightsEach Try.prog (Try.f6.params.toList ++ Rows.fnExactPutSpec.plain.varTypes Try.prog) (ds ++ gs)).all (· ≤ reachBytes) = true := hsz0
  clear hsz0
  have hval : ∀ (j : Nat) t v, Try.f6.params[j]? = some t → args[j]? = some v → Value.okWide Try.prog W .any base t v := hval0
  have hW' := hW
  obtain ⟨p, q, hA0, hV, rfl, hfz, hnd⟩ := hW
  have hA : DataW.TrodAll enc Try.prog W 0 (fun _ => true) true Try.f6.params.toList args.toList ds p := hA0
  rw [Try.params6] at hA hval hsz
  obtain ⟨v0, vs0, d0, ds0, p0, q0, hargs, rfl, rfl, h0, r0⟩ := trodAll_cons hA
  obtain ⟨o0, vt0, e0, dt0, pp0, qq0, rfl, rfl, rfl, ho0, rr0⟩ := trodAll_cons r0
  obtain ⟨o1, vt1, e1, dt1, pp1, qq1, rfl, rfl, rfl, ho1, rr1⟩ := trodAll_cons rr0
  obtain ⟨rfl, rfl, rfl⟩ := trodAll_nil rr1
  obtain rfl : args = #[v0, o0, o1] := by cases args; simp_all
  obtain ⟨rfl, rfl⟩ := trodVars_none hV
  have hsk : Sz 24 e0 := by
    intro n hn
    exact of_decide_eq_true (List.all_eq_true.1 hsz n (DataW.weights_mem_each (j := 1) (t := 24) (d := e0) rfl rfl n hn))
  obtain ⟨csk, rfl, hck⟩ := okWide_struct Try.underlying24 (hval 1 24 o0 rfl rfl)
  rw [cellsV] at hck
  obtain ⟨ky, hky, kb⟩ := read_val hck ho0 hsk
  rw [hky] at ho0
  have hsk1 : Sz 24 e1 := by
    intro n hn
    exact of_decide_eq_true (List.all_eq_true.1 hsz n (DataW.weights_mem_each (j := 2) (t := 24) (d := e1) rfl rfl n hn))
  obtain ⟨csk1, rfl, hck1⟩ := okWide_struct Try.underlying24 (hval 2 24 o1 rfl rfl)
  rw [cellsV] at hck1
  obtain ⟨yv, hyv, yb⟩ := read_val hck1 ho1 hsk1
  rw [hyv] at ho1
  have hsd : Sz 35 d0 := by
    intro n hn
    exact of_decide_eq_true (List.all_eq_true.1 hsz n (DataW.weights_mem_each (j := 0) (t := 35) (d := d0) rfl rfl n hn))
  obtain ⟨cs, rfl, hcz⟩ := okWide_struct Try.underlying35 (hval 0 35 v0 rfl rfl)
  clear hA0 hval0
  simp only [List.append_nil] at hW'
  have hlt : ∀ x ∈ p0, x.block < W.heap.size := fun x hx => by simpa using hW'.lt x (by simp [hx])
  have hlt2 : ∀ x ∈ pp0, x.block < W.heap.size := fun x hx => by simpa using hW'.lt x (by simp [hx])
  have hlt3 : ∀ x ∈ pp1, x.block < W.heap.size := fun x hx => by simpa using hW'.lt x (by simp [hx])
  rw [hky] at hW' ⊢
  rw [hyv] at hW' ⊢
  rw [cellsT] at hcz
  obtain ⟨v, T, n, F, hv, ta, _⟩ := read_table hcz h0 hsd
  rw [hv] at h0 hW' ⊢
  refine (law_put T ky kb yv yb W ta).mono fun e W' ⟨he, hg⟩ => ?_
  subst he
  exact ⟨_, rfl, _, _, _, [], p0 ++ (pp0 ++ pp1), [], hW', (trodAll_cons_mk (shut_bool Try.underlying4 _) trodAll_mk0), (trodAll_cons_mk (tab_stays_kq h0 hlt hg) (trodAll_cons_mk (val_stays_kq ho0 hlt2 hg) (trodAll_mk1 (val_stays_kq ho1 hlt3 hg)))), rfl, World.keptBut_mono (fun _ f => f.elim) hg.kept, fun h => by cases h⟩
theorem over : Rows.fnExactPutRow.holds Try.pinned (OpenSpec.ofChange Rows.fnExactPutSpec) :=
  OpenClaim.holds_of_wide 6 Try.f6 rfl rfl rfl rfl rfl rfl rfl ⟨rfl, rfl, rfl, rfl, rfl⟩ rfl rfl rfl rfl rfl (by kernel_rfl) Try.func6 (by kernel_rfl)
    (of_decide_eq_true (by kernel_rfl)) (by unfold Func.isWrapper; first | (rw [if_pos (by decide +kernel)]; kernel_rfl) | (rw [if_neg (by decide +kernel)]; exact ⟨rfl, rfl⟩))
    (fun os started H enc _ => lifted os started H enc)
theorem proved : Rows.FnExactPutSaid :=
  over
#print axioms proved
end Go.Proofs.Ytfpidccjcemcjaa.fnExactPut
