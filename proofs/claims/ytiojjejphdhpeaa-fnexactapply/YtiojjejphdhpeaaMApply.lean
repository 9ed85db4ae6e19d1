import Derived.Test.YtiojjejphdhpeaaRows
import Derived.Test.YtiojjejphdhpeaaMDaj
import Derived.Test.YtiojjejphdhpeaaMDif
import Derived.Test.YtiojjejphdhpeaaMDie
namespace Go.Proofs.Ytiojjejphdhpeaa.fnExactApply
open Go.Proofs.Ytiojjejphdhpeaa.Fo Go.ChangeShapes Go.WideShapes Go.ChangeAt Go.RowKit
set_option linter.unusedVariables false
theorem own : ownKnob Try.prog.godebug = none := by kernel_rfl
set_option maxRecDepth 100000 in
set_option maxHeartbeats 4000000 in
theorem lifted (os : Os) (started : os.Started) (H : Type) (enc : TypeId × Value → H) :
    ReturnsInHanded {} Try.checked os 8 .any (Rows.fnExactApplySpec.pre6 enc Try.prog Try.f8 Rows.fnExactApplyRow.domain false) (Rows.fnExactApplySpec.post enc Try.prog Try.f8 false true false false) := by
  refine returnsInHanded_of_change_sized (C := Try.checked) own started (by kernel_rfl) Try.func8
    (ChangeSpec.witness6 (enc := enc) (C := Try.checked) false ⟨#[], #[.agg #[.slice none 0 0, .slice none 0 0], .slice none 0 0, .int .i64 0], []⟩ 8 (by kernel_rfl) (by kernel_rfl) (by kernel_rfl) (by kernel_rfl)) ?_
  intro W base args ds gs before hval0 hW _ hsz0 _
  have hsz : (DataW.weightsEach Try.prog (Try.f8.params.toList ++ Rows.fnExactApplySpec.plain.varTypes Try.prog) (ds ++ gs)).all (· ≤ reachBytes) = true := hsz0
  clear hsz0
  have hval : ∀ (j : Nat) t v, Try.f8.params[j]? = some t → args[j]? = some v → Value.okWide Try.prog W .any base t v := hval0
  have hW' := hW
  obtain ⟨p, q, hA0, hV, rfl, hfz, hnd⟩ := hW
  have hA : DataW.TrodAll enc Try.prog W 0 (fun _ => true) true Try.f8.params.toList args.toList ds p := hA0
  rw [Try.params8] at hA hval hsz
  obtain ⟨v0, vs0, d0, ds0, p0, q0, hargs, rfl, rfl, h0, r0⟩ := trodAll_cons hA
  obtain ⟨vr, vsr, dr, dsr, pr, qr, rfl, rfl, rfl, hr, r1⟩ := trodAll_cons r0
  obtain ⟨o0, vt0, e0, dt0, pp0, qq0, rfl, rfl, rfl, ho0, rr0⟩ := trodAll_cons r1
  obtain ⟨rfl, rfl, rfl⟩ := trodAll_nil rr0
  obtain rfl : args = #[v0, vr, o0] := by cases args; simp_all
  obtain ⟨rfl, rfl⟩ := trodVars_none hV
  obtain ⟨tt, rfl, rfl, rfl, wop⟩ := open_int Try.underlying3 (hval 2 3 o0 rfl rfl) ho0
  obtain ⟨pz, nz, cz, rfl⟩ := okWide_slice Try.underlying61 (hval 1 61 vr rfl rfl)
  have hsd : Sz 25 d0 := by
    intro n hn
    exact of_decide_eq_true (List.all_eq_true.1 hsz n (DataW.weights_mem_each (j := 0) (t := 25) (d := d0) rfl rfl n hn))
  obtain ⟨cs, rfl, hcz⟩ := okWide_struct Try.underlying25 (hval 0 25 v0 rfl rfl)
  have hsr : Sz 61 dr := by
    intro n hn
    exact of_decide_eq_true (List.all_eq_true.1 hsz n (DataW.weights_mem_each (j := 1) (t := 61) (d := dr) rfl rfl n hn))
  clear hA0 hval0
  simp only [List.append_nil] at hW'
  have hlt : ∀ x ∈ p0, x.block < W.heap.size := fun x hx => by simpa using hW'.lt x (by simp [hx])
  have hltr : ∀ x ∈ pr, x.block < W.heap.size := fun x hx => by simpa using hW'.lt x (by simp [hx])
  rw [cellsLD] at hcz
  obtain ⟨v1, v2, D, hv, ra, rd⟩ := read_disk hcz h0 hsd
  rw [hv] at h0 hW' ⊢
  obtain ⟨vq, nk, F, hq, rk, sk, sF⟩ := (by obtain ⟨fuel, hf⟩ := hr; exact read_ops hf hsr : ∃ (v : Value) (n : Nat) (F : Nat → Ed), (Value.slice pz nz cz).cells.toList = [v] ∧ RowE 3 0 W v n F ∧ (n : Int) < 140737488355328 ∧ ∀ i, i < n → RdE (F i))
  obtain rfl : Value.slice pz nz cz = vq := by simpa [Value.cells] using hq
  obtain ⟨pk, ck, ek, hk2⟩ := id rk
  injection ek with ek1 ek2 ek3
  subst ek1
  subst ek2
  subst ek3
  refine (law_apply tt W ra rd.hn (fun i hi => (rd.hB i hi).1) rd.hm (fun i hi => (rd.hQ i hi).1) rk sk (fun i hi => (sF i hi).1)).mono fun e W' ⟨he, hg⟩ => ?_
  subst he
  exact ⟨_, rfl, _, _, _, [], p0 ++ pr, [], hW', (trodAll_cons_mk (shut_bool Try.underlying4 _) trodAll_mk0), (by have h := trodAll_mk3 (disk_stays h0 hlt hg) (ops_stays hr hltr hg) (shut_int Try.underlying3 wop); rw [List.append_nil] at h; exact h), rfl, World.keptBut_mono (fun _ f => f.elim) hg.kept, fun h => by cases h⟩
theorem over : Rows.fnExactApplyRow.holds Try.pinned (OpenSpec.ofChange Rows.fnExactApplySpec) :=
  OpenClaim.holds_of_wide 8 Try.f8 rfl rfl rfl rfl rfl rfl rfl ⟨rfl, rfl, rfl, rfl, rfl⟩ rfl rfl rfl rfl rfl (by kernel_rfl) Try.func8 (by kernel_rfl)
    (of_decide_eq_true (by kernel_rfl)) (by unfold Func.isWrapper; first | (rw [if_pos (by decide +kernel)]; kernel_rfl) | (rw [if_neg (by decide +kernel)]; exact ⟨rfl, rfl⟩))
    (fun os started H enc _ => lifted os started H enc)
theorem proved : Rows.FnExactApplySaid :=
  over
#print axioms proved
end Go.Proofs.Ytiojjejphdhpeaa.fnExactApply
