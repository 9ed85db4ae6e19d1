import Derived.Test.YtdkmnggdelchkaaRows
import Derived.Test.YtdkmnggdelchkaaMJhd
import Derived.Test.YtdkmnggdelchkaaMJgh
namespace Go.Proofs.Ytdkmnggdelchkaa.fnExactJournalImage
open Go.Proofs.Ytdkmnggdelchkaa.Fo Go.ChangeShapes Go.WideShapes Go.ChangeAt Go.RowKit
set_option linter.unusedVariables false
theorem own : ownKnob Try.prog.godebug = none := by kernel_rfl
theorem jim_len (J : Jd) : (jim J).length ≤ 8192 := by
  unfold jim
  split
  · exact pck_len _ _ _
  · exact Nat.zero_le _
set_option maxRecDepth 100000 in
set_option maxHeartbeats 4000000 in
theorem lifted (os : Os) (started : os.Started) (H : Type) (enc : TypeId × Value → H) :
    ReturnsInHanded {} Try.checked os 3 .any (Rows.fnExactJournalImageSpec.pre6 enc Try.prog Try.f3 Rows.fnExactJournalImageRow.domain false) (Rows.fnExactJournalImageSpec.post enc Try.prog Try.f3 false true false false) := by
  refine returnsInHanded_of_change_sized (C := Try.checked) own started (by kernel_rfl) Try.func3
    (ChangeSpec.witness6 (enc := enc) (C := Try.checked) false ⟨#[], #[.agg #[.slice none 0 0, .int .i64 0, .int .i64 0, .slice none 0 0]], []⟩ 8 (by kernel_rfl) (by kernel_rfl) (by kernel_rfl) (by kernel_rfl)) ?_
  intro W base args ds gs before hval0 hW _ hsz0 _
  have hsz : (DataW.weightsEach Try.prog (Try.f3.params.toList ++ Rows.fnExactJournalImageSpec.plain.varTypes Try.prog) (ds ++ gs)).all (· ≤ reachBytes) = true := hsz0
  clear hsz0
  have hval : ∀ (j : Nat) t v, Try.f3.params[j]? = some t → args[j]? = some v → Value.okWide Try.prog W .any base t v := hval0
  have hW' := hW
  obtain ⟨p, q, hA0, hV, rfl, hfz, hnd⟩ := hW
  have hA : DataW.TrodAll enc Try.prog W 0 (fun _ => true) true Try.f3.params.toList args.toList ds p := hA0
  rw [Try.params3] at hA hval hsz
  obtain ⟨v0, vs0, d0, ds0, p0, q0, hargs, rfl, rfl, h0, r0⟩ := trodAll_cons hA
  obtain ⟨rfl, rfl, rfl⟩ := trodAll_nil r0
  obtain rfl : args = #[v0] := by cases args; simp_all
  obtain ⟨rfl, rfl⟩ := trodVars_none hV
  have hsd : Sz 25 d0 := by
    intro n hn
    exact of_decide_eq_true (List.all_eq_true.1 hsz n (DataW.weights_mem_each (j := 0) (t := 25) (d := d0) rfl rfl n hn))
  obtain ⟨cs, rfl, hcz⟩ := okWide_struct Try.underlying25 (hval 0 25 v0 rfl rfl)
  clear hA0 hval0
  simp only [List.append_nil] at hW'
  have hlt : ∀ x ∈ p0, x.block < W.heap.size := fun x hx => by simpa using hW'.lt x (by simpa using hx)
  rw [cellsLJ] at hcz
  obtain ⟨J, va, ua, hv, ra, sn, sm, sS, sT⟩ := read_jour hcz h0 hsd
  rw [hv] at h0 hW' ⊢
  obtain ⟨p1, c1, rfl, -⟩ := id ra.1
  obtain ⟨p2, c2, rfl, -⟩ := id ra.2
  refine (law_ji (J := J) (N := (jim J).length) (A := fun i => (jim J).getD i 0) rfl rfl rfl rfl (fun hb W v u h => by
    obtain ⟨x1, y1, rfl, _⟩ := id h.1
    obtain ⟨x2, y2, rfl, _⟩ := id h.2
    exact (sp_ji W h.1 h.2 hb.1 hb.2.1 (fun i hi => by have := hb.2.2 i hi; omega)).mono (fun e w' ⟨v', he, h1, h2⟩ => by obtain ⟨g, hg⟩ := own_an h1; exact ⟨v', g, he, hg, h2⟩)) (fun hb W v u h => by
    obtain ⟨x1, y1, rfl, _⟩ := id h.1
    obtain ⟨x2, y2, rfl, _⟩ := id h.2
    exact (im_ji W h.1 h.2 hb.1 hb.2.1 (fun i hi => by have := hb.2.2 i hi; omega)).mono (fun e w' ⟨v', he, h1, h2⟩ => by obtain ⟨g, hg⟩ := own_an h1; exact ⟨v', g, he, hg, h2⟩)) (jim_len J) W ra sn sm sS sT).mono fun e W' ⟨he, hg⟩ => ?_
  subst he
  exact ⟨_, rfl, _, _, _, [], p0, [], hW', (trodAll_cons_mk (shut_bool Try.underlying4 _) trodAll_mk0), trodAll_mk1 (jou_stays h0 hlt hg), rfl, World.keptBut_mono (fun _ f => f.elim) hg.kept, fun h => by cases h⟩
theorem over : Rows.fnExactJournalImageRow.holds Try.pinned (OpenSpec.ofChange Rows.fnExactJournalImageSpec) :=
  OpenClaim.holds_of_wide 3 Try.f3 rfl rfl rfl rfl rfl rfl rfl ⟨rfl, rfl, rfl, rfl, rfl⟩ rfl rfl rfl rfl rfl (by kernel_rfl) Try.func3 (by kernel_rfl)
    (of_decide_eq_true (by kernel_rfl)) (by unfold Func.isWrapper; first | (rw [if_pos (by decide +kernel)]; kernel_rfl) | (rw [if_neg (by decide +kernel)]; exact ⟨rfl, rfl⟩))
    (fun os started H enc _ => lifted os started H enc)
theorem proved : Rows.FnExactJournalImageSaid :=
  over
#print axioms proved
end Go.Proofs.Ytdkmnggdelchkaa.fnExactJournalImage
