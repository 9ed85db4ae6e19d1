import Derived.Test.YtogenhnonjkanaaDoorSee
namespace Go.Proofs.YtogenhnonjkanaaDoor
open Go.ChangeShapes Go.WideShapes Go.ChangeAt Go.RowKit
set_option linter.unusedVariables false
theorem run_len {L : List UInt8} {tk : Nat → Tk} (ok : TkOk L tk) {p : Nat} {l : Int} {xs : List (Nat × Int)} {e : Nat} {st : Bool} (h : Run L tk p l xs e st) : p ≤ L.length → xs.length + p ≤ L.length := by
  induction h with
  | fin p l h => intro hp; simp; omega
  | bad p l h hk => intro hp; simp; omega
  | step p l ts e st h hk hr ih =>
    intro hp
    have h1 := ok.lt p h hk
    have h2 := ok.le p h
    have h3 := bl_le L _ h2
    have h4 := bl_ge L (tk p).to
    have := ih h3
    simp
    omega
set_option maxRecDepth 100000 in
set_option maxHeartbeats 4000000 in
theorem spec_big (T : ByteArray) (h : (65536 : Int) < (T.size : Int)) (w : World) : Calls Tryd.prog 5 #[.string T] w fun e w' => Below w.heap.size w w' ∧ e = .returned (.agg #[.bool false, .int .i64 65536, .slice none 0 0]) := by
  go_enter Tryd.func5, Tryd.ntmps5
  go_wp2_with fail
  refine bodyPost_ret (by simp [results, Tryd.results5, go_sem]; rfl) rfl ?_
  exact ⟨(Below.refl _ w).alloc (Nat.le_refl _) _, rfl⟩
set_option maxRecDepth 100000 in
set_option maxHeartbeats 4000000 in
theorem impl_big (T : ByteArray) (h : (65536 : Int) < (T.size : Int)) (w : World) : Calls Tryd.prog 6 #[.string T] w fun e w' => Rd.Kept w w' ∧ e = .returned (.agg #[.bool false, .int .i64 65536, .slice none 0 0]) := by
  refine (callsIn_wide (n := 3)).1 ?_
  refine callsIn_of_wp_marks Tryd.func6 rfl trivial ?_ rfl
  simp only [Tryd.ntmps6, List.size_toArray, List.length_cons, List.length_nil, Nat.reduceAdd, Nat.reduceSub, Array.replicate_succ, Array.replicate_zero, List.push_toArray, List.append_toArray, List.nil_append, List.cons_append]
  gi_wp2_with fail
  refine ⟨_, by simp [results, Tryd.results6, go_sem]; rfl, ?_⟩
  exact ⟨Kb.kept (B := w.heap.size) (Kb.new _ _ _) (Nat.le_refl _), rfl⟩
set_option maxRecDepth 100000 in
set_option maxHeartbeats 4000000 in
theorem law_huge (T : ByteArray) (h : (1048576 : Int) < (T.size : Int)) (w : World) : Calls Tryd.prog 3 #[.string T] w fun e w' => e = .returned (.bool true) ∧ Rd.Kept w w' := by
  go_enter Tryd.func3, Tryd.ntmps3
  go_wp2_with fail
  go_ret
  exact ⟨rfl, Rd.Kept.refl _⟩
theorem law_scan (T : ByteArray) (w : World) (hg : Gd w) : Calls Tryd.prog 3 #[.string T] w fun e w' => e = .returned (.bool true) ∧ Rd.Kept w w' := by
  by_cases h1 : (1048576 : Int) < (T.size : Int)
  · exact law_huge T h1 w
  · by_cases h2 : (65536 : Int) < (T.size : Int)
    · exact law_at T (by omega) false 65536 0 mkT (by omega)
        (fun w => (spec_big T h2 w).mono fun e w' hh => ⟨hh.1, _, hh.2, own_nil _ _ _⟩)
        (fun w _ => (impl_big T h2 w).mono fun e w' hh => ⟨hh.1, _, hh.2, own_nil _ _ _⟩) w hg
    · obtain ⟨L, hT⟩ : ∃ L, T.data.toList = L := ⟨_, rfl⟩
      have hs : T.size = L.length := by rw [← hT]; simp
      obtain ⟨tk, htk⟩ := tk_any T L
      have ok := tko_ok htk
      obtain ⟨xs, e, st, hrun⟩ := run_any ok L.length (bl L 0) 1 (bl_le L 0 (Nat.zero_le _)) (by omega)
      have hxl : xs.length ≤ 65536 := by have := run_len ok hrun (bl_le L 0 (Nat.zero_le _)); omega
      have h5 := fun w => spec_scan T L hT (by omega) tk ok xs e st hrun (tko_spec hT (by omega) htk) hxl w
      have h6 := fun w (hg : Gd w) => impl_scan T L hT (by omega) tk ok xs e st hrun w hg (fun B hB => tko_impl hT (by omega) hB htk) hxl
      cases st with
      | true =>
        exact law_at T (by omega) false e 0 mkT (by omega)
          (fun w => (h5 w).mono fun en w' hh => ⟨hh.1, .slice none 0 0, by obtain ⟨v, hv, _⟩ := hh.2; exact hv, own_nil _ _ _⟩)
          (fun w hg => (h6 w hg).mono fun en w' hh => ⟨hh.1, .slice none 0 0, by obtain ⟨v, hv, _⟩ := hh.2; exact hv, own_nil _ _ _⟩) w hg
      | false =>
        exact law_at T (by omega) true 0 xs.length (tvs tk xs) hxl
          (fun w => (h5 w).mono fun en w' hh => ⟨hh.1, by obtain ⟨v, hv, ho⟩ := hh.2; exact ⟨v, hv, own_row (ho rfl)⟩⟩)
          (fun w hg => (h6 w hg).mono fun en w' hh => ⟨hh.1, by obtain ⟨v, hv, ho⟩ := hh.2; exact ⟨v, hv, own_row (ho rfl)⟩⟩) w hg
end Go.Proofs.YtogenhnonjkanaaDoor
