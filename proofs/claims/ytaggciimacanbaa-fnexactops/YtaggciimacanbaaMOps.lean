import Derived.Test.YtaggciimacanbaaRows
import Derived.Test.YtaggciimacanbaaMDaj
import Derived.Test.YtaggciimacanbaaMDkr
namespace Go.Proofs.Ytaggciimacanbaa.fnExactOps
open Go.Proofs.Ytaggciimacanbaa.Fo Go.ChangeShapes Go.WideShapes Go.ChangeAt Go.RowKit
set_option linter.unusedVariables false
theorem own : ownKnob Try.prog.godebug = none := by kernel_rfl
set_option maxRecDepth 100000 in
set_option maxHeartbeats 4000000 in
theorem lifted (os : Os) (started : os.Started) (H : Type) (enc : TypeId × Value → H) :
    ReturnsInHanded {} Try.checked os 7 .any (Rows.fnExactOpsSpec.pre6 enc Try.prog Try.f7 Rows.fnExactOpsRow.domain false) (Rows.fnExactOpsSpec.post enc Try.prog Try.f7 false true false false) := by
  refine returnsInHanded_of_change_sized (C := Try.checked) own started (by kernel_rfl) Try.func7
    (ChangeSpec.witness6 (enc := enc) (C := Try.checked) false ⟨#[], #[.agg #[.slice none 0 0, .slice none 0 0], .slice none 0 0], []⟩ 8 (by kernel_rfl) (by kernel_rfl) (by kernel_rfl) (by kernel_rfl)) ?_
  intro W base args ds gs before hval0 hW _ hsz0 _
  have hsz : (DataW.weightsEach Try.prog (Try.f7.params.toList ++ Rows.fnExactOpsSpec.plain.varTypes Try.prog) (ds ++ gs)).all (· ≤ reachBytes) = true := hsz0
  clear hsz0
  have hval : ∀ (j : Nat) t v, Try.f7.params[j]? = some t → args[j]? = some v → Value.okWide Try.prog W .any base t v := hval0
  have hW' := hW
  obtain ⟨p, q, hA0, hV, rfl, hfz, hnd⟩ := hW
  have hA : DataW.TrodAll enc Try.prog W 0 (fun _ => true) true Try.f7.params.toList args.toList ds p := hA0
  rw [Try.params7] at hA hval hsz
  obtain ⟨v0, vs0, d0, ds0, p0, q0, hargs, rfl, rfl, h0, r0⟩ := trodAll_cons hA
  obtain ⟨vr, vsr, dr, dsr, pr, qr, rfl, rfl, rfl, hr, r1⟩ := trodAll_cons r0
  obtain ⟨rfl, rfl, rfl⟩ := trodAll_nil r1
  obtain rfl : args = #[v0, vr] := by cases args; simp_all
  obtain ⟨rfl, rfl⟩ := trodVars_none hV
  obtain ⟨pz, nz, cz, rfl⟩ := okWide_slice Try.underlying26 (hval 1 26 vr rfl rfl)
  have hsd : Sz 25 d0 := by
    intro n hn
    exact of_decide_eq_true (List.all_eq_true.1 hsz n (DataW.weights_mem_each (j := 0) (t := 25) (d := d0) rfl rfl n hn))
  obtain ⟨cs, rfl, hcz⟩ := okWide_struct Try.underlying25 (hval 0 25 v0 rfl rfl)
  have hsr : Sz 26 dr := by
    intro n hn
    exact of_decide_eq_true (List.all_eq_true.1 hsz n (DataW.weights_mem_each (j := 1) (t := 26) (d := dr) rfl rfl n hn))
  clear hA0 hval0
  simp only [List.append_nil] at hW'
  have hlt : ∀ x ∈ p0, x.block < W.heap.size := fun x hx => by simpa using hW'.lt x (by simp [hx])
  have hltr : ∀ x ∈ pr, x.block < W.heap.size := fun x hx => by simpa using hW'.lt x (by simp [hx])
  rw [cellsLD] at hcz
  obtain ⟨v1, v2, D, hv, ra, rd⟩ := read_disk hcz h0 hsd
  rw [hv] at h0 hW' ⊢
  obtain ⟨vq, nk, A, hq, rk, sk, sA⟩ := (by obtain ⟨fuel, hf⟩ := hr; exact read_byts hf hsr : ∃ (v : Value) (n : Nat) (A : Nat → Int), (Value.slice pz nz cz).cells.toList = [v] ∧ RowV W v n (fun i => .int .u8 (A i)) ∧ (n : Int) < 140737488355328 ∧ ∀ i, i < n → 0 ≤ A i ∧ A i ≤ 255)
  obtain rfl : Value.slice pz nz cz = vq := by simpa [Value.cells] using hq
  obtain ⟨pk, ck, ek, hk2⟩ := id rk
  injection ek with ek1 ek2 ek3
  subst ek1
  subst ek2
  subst ek3
  refine (law_ops W ra rd.hn (fun i hi => (rd.hB i hi).1) rd.hm (fun i hi => (rd.hQ i hi).1) rk sk ⟨fun i hi => (rd.hB i hi).2, fun i hi => (rd.hQ i hi).2⟩ sA).mono fun e W' ⟨he, hg⟩ => ?_
  subst he
  exact ⟨_, rfl, _, _, _, [], p0 ++ pr, [], hW', (trodAll_cons_mk (shut_bool Try.underlying4 _) trodAll_mk0), trodAll_mk2 (disk_stays h0 hlt hg) (byts_stays hr hltr hg), rfl, World.keptBut_mono (fun _ f => f.elim) hg.kept, fun h => by cases h⟩
theorem over : Rows.fnExactOpsRow.holds Try.pinned (OpenSpec.ofChange Rows.fnExactOpsSpec) :=
  OpenClaim.holds_of_wide 7 Try.f7 rfl rfl rfl rfl rfl rfl rfl ⟨rfl, rfl, rfl, rfl, rfl⟩ rfl rfl rfl rfl rfl (by kernel_rfl) Try.func7 (by kernel_rfl)
    (of_decide_eq_true (by kernel_rfl)) (by unfold Func.isWrapper; first | (rw [if_pos (by decide +kernel)]; kernel_rfl) | (rw [if_neg (by decide +kernel)]; exact ⟨rfl, rfl⟩))
    (fun os started H enc _ => lifted os started H enc)
theorem proved : Rows.FnExactOpsSaid :=
  over
#print axioms proved
end Go.Proofs.Ytaggciimacanbaa.fnExactOps
