import Derived.Test.YtiojjejphdhpeaaRows
import Derived.Test.YtiojjejphdhpeaaMDaj
import Derived.Test.YtiojjejphdhpeaaMDgf
import Derived.Test.YtiojjejphdhpeaaMDgi
namespace Go.Proofs.Ytiojjejphdhpeaa.fnExactPutBlock
open Go.Proofs.Ytiojjejphdhpeaa.Fo Go.ChangeShapes Go.WideShapes Go.ChangeAt Go.RowKit
set_option linter.unusedVariables false
theorem own : ownKnob Try.prog.godebug = none := by kernel_rfl
set_option maxRecDepth 100000 in
set_option maxHeartbeats 4000000 in
theorem lifted (os : Os) (started : os.Started) (H : Type) (enc : TypeId × Value → H) :
    ReturnsInHanded {} Try.checked os 3 .any (Rows.fnExactPutBlockSpec.pre6 enc Try.prog Try.f3 Rows.fnExactPutBlockRow.domain false) (Rows.fnExactPutBlockSpec.post enc Try.prog Try.f3 false true false false) := by
  refine returnsInHanded_of_change_sized (C := Try.checked) own started (by kernel_rfl) Try.func3
    (ChangeSpec.witness6 (enc := enc) (C := Try.checked) false ⟨#[], #[.agg #[.slice none 0 0, .slice none 0 0], .int .i64 0, .slice none 0 0], []⟩ 8 (by kernel_rfl) (by kernel_rfl) (by kernel_rfl) (by kernel_rfl)) ?_
  intro W base args ds gs before hval0 hW _ hsz0 _
  have hsz : (DataW.weightsEach Try.prog (Try.f3.params.toList ++ Rows.fnExactPutBlockSpec.plain.varTypes Try.prog) (ds ++ gs)).all (· ≤ reachBytes) = true := hsz0
  clear hsz0
  have hval : ∀ (j : Nat) t v, Try.f3.params[j]? = some t → args[j]? = some v → Value.okWide Try.prog W .any base t v := hval0
  have hW' := hW
  obtain ⟨p, q, hA0, hV, rfl, hfz, hnd⟩ := hW
  have hA : DataW.TrodAll enc Try.prog W 0 (fun _ => true) true Try.f3.params.toList args.toList ds p := hA0
  rw [Try.params3] at hA hval hsz
  obtain ⟨v0, vs0, d0, ds0, p0, q0, hargs, rfl, rfl, h0, r0⟩ := trodAll_cons hA
  obtain ⟨o0, vt0, e0, dt0, pp0, qq0, rfl, rfl, rfl, ho0, rr0⟩ := trodAll_cons r0
  obtain ⟨vr, vsr, dr, dsr, pr, qr, rfl, rfl, rfl, hr, r1⟩ := trodAll_cons rr0
  obtain ⟨rfl, rfl, rfl⟩ := trodAll_nil r1
  obtain rfl : args = #[v0, o0, vr] := by cases args; simp_all
  obtain ⟨rfl, rfl⟩ := trodVars_none hV
  obtain ⟨tt, rfl, rfl, rfl, wop⟩ := open_int Try.underlying3 (hval 1 3 o0 rfl rfl) ho0
  obtain ⟨pz, nz, cz, rfl⟩ := okWide_slice Try.underlying26 (hval 2 26 vr rfl rfl)
  have hsd : Sz 25 d0 := by
    intro n hn
    exact of_decide_eq_true (List.all_eq_true.1 hsz n (DataW.weights_mem_each (j := 0) (t := 25) (d := d0) rfl rfl n hn))
  obtain ⟨cs, rfl, hcz⟩ := okWide_struct Try.underlying25 (hval 0 25 v0 rfl rfl)
  have hsr : Sz 26 dr := by
    intro n hn
    exact of_decide_eq_true (List.all_eq_true.1 hsz n (DataW.weights_mem_each (j := 2) (t := 26) (d := dr) rfl rfl n hn))
  clear hA0 hval0
  simp only [List.append_nil, List.nil_append] at hW'
  have hlt : ∀ x ∈ p0, x.block < W.heap.size := fun x hx => by simpa using hW'.lt x (by simp [hx])
  have hltr : ∀ x ∈ pr, x.block < W.heap.size := fun x hx => by simpa using hW'.lt x (by simp [hx])
  rw [cellsLD] at hcz
  obtain ⟨v1, v2, D, hv, ra, rd⟩ := read_disk hcz h0 hsd
  rw [hv] at h0 hW' ⊢
  obtain ⟨vq, nk, A, hq, rk, sk, sA⟩ := (by obtain ⟨fuel, hf⟩ := hr; exact read_byts hf hsr : ∃ (v : Value) (n : Nat) (A : Nat → Int), (Value.slice pz nz cz).cells.toList = [v] ∧ RowV W v n (fun i => .int .u8 (A i)) ∧ (n : Int) < 140737488355328 ∧ ∀ i, i < n → 0 ≤ A i ∧ A i ≤ 255)
  obtain rfl : Value.slice pz nz cz = vq := by simpa [Value.cells] using hq
  obtain ⟨pk, ck, ek, hk2⟩ := id rk
  injection ek with ek1 ek2 ek3
  subst ek1
  subst ek2
  subst ek3
  refine (law_put tt W ra rd.hn (fun i hi => (rd.hB i hi).1) rd.hm (fun i hi => (rd.hQ i hi).1) rk sk).mono fun e W' ⟨he, hg⟩ => ?_
  subst he
  exact ⟨_, rfl, _, _, _, [], p0 ++ pr, [], hW', (trodAll_cons_mk (shut_bool Try.underlying4 _) trodAll_mk0), (by have h := trodAll_mk3 (disk_stays h0 hlt hg) (shut_int Try.underlying3 wop) (byts_stays hr hltr hg); rw [List.nil_append] at h; exact h), rfl, World.keptBut_mono (fun _ f => f.elim) hg.kept, fun h => by cases h⟩
theorem over : Rows.fnExactPutBlockRow.holds Try.pinned (OpenSpec.ofChange Rows.fnExactPutBlockSpec) :=
  OpenClaim.holds_of_wide 3 Try.f3 rfl rfl rfl rfl rfl rfl rfl ⟨rfl, rfl, rfl, rfl, rfl⟩ rfl rfl rfl rfl rfl (by kernel_rfl) Try.func3 (by kernel_rfl)
    (of_decide_eq_true (by kernel_rfl)) (by unfold Func.isWrapper; first | (rw [if_pos (by decide +kernel)]; kernel_rfl) | (rw [if_neg (by decide +kernel)]; exact ⟨rfl, rfl⟩))
    (fun os started H enc _ => lifted os started H enc)
theorem proved : Rows.FnExactPutBlockSaid :=
  over
#print axioms proved
end Go.Proofs.Ytiojjejphdhpeaa.fnExactPutBlock
