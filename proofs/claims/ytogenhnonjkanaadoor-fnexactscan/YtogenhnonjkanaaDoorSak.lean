import Derived.Test.YtogenhnonjkanaaDoorSaj
namespace Go.Proofs.YtogenhnonjkanaaDoor
open Go.ChangeShapes Go.WideShapes Go.ChangeAt Go.RowKit
set_option linter.unusedVariables false
theorem fm_find {f : Nat → ByteArray} {ws : List (List UInt8)} (hf : ∀ i, (f i).data.toList = ws.getD i []) {S : ByteArray} {m : Nat} (h : Fm f ws.length S m) : wfind ws S.data.toList = if m < ws.length then some m else none := by
  obtain ⟨h1, h2, h3⟩ := h
  have hne : ∀ j, j < m → ws.getD j [] ≠ S.data.toList := fun j hj g => by
    have := h2 j hj
    rw [cmp_list, hf, g] at this
    simp at this
  by_cases hm : m < ws.length
  · rw [if_pos hm]
    have := h3.resolve_left (by omega)
    rw [cmp_list, hf] at this
    exact wfind_some hm (eq_of_beq this) hne
  · rw [if_neg hm]
    exact wfind_none (fun j hj => hne j (by omega))
/-- the kind of a text that is a sign, 0 for any other -/
def sv (X : List UInt8) : Int := if X = [59] then 5 else if X = [10] then 7 else match wfind marksL X with
  | some b => 40 + b
  | none => match wfind infixL X with
    | some a => 61 + a
    | none => 0
/-- the kind that the model gives a sign -/
def ssv (X : List UInt8) : Int := match wfind infixL X with
  | some a => 61 + a
  | none => match wfind marksL X with
    | some b => 40 + b
    | none => 5
theorem sign_run (S : ByteArray) (w : World) (hg : Gd w) : Calls Tryd.prog 82 #[.string S] w fun e w' => e = .returned (.int .i64 (sv S.data.toList)) ∧ w' = w := by
  obtain ⟨a, ha⟩ := fm_any infixB 18 S
  obtain ⟨b, hb⟩ := fm_any marksB 11 S
  have ea := fm_find (ws := infixL) infix_list (S := S) (m := a) (by rw [infix_len]; exact ha)
  have eb := fm_find (ws := marksL) marks_list (S := S) (m := b) (by rw [marks_len]; exact hb)
  rw [infix_len] at ea
  rw [marks_len] at eb
  have e : sv S.data.toList = kI (S.toList == [59]) (S.toList == [10]) a b := by
    unfold sv kI
    rw [Lib.toList_data, ea, eb]
    by_cases h1 : S.data.toList = [59]
    · simp [h1]
    · by_cases h2 : S.data.toList = [10]
      · simp [h2]
      · have n1 : (S.data.toList == [59]) = false := by simpa using h1
        have n2 : (S.data.toList == [10]) = false := by simpa using h2
        rw [if_neg h1, if_neg h2, n1, n2]
        by_cases hb2 : b < 11
        · simp [hb2]
        · by_cases ha2 : a < 18
          · simp [hb2, ha2]
          · simp [hb2, ha2]
  rw [e]
  exact impl_sign S _ _ rfl rfl a b ha hb w hg
theorem spec_sign_run (S : ByteArray) (w : World) : Calls Tryd.prog 37 #[.string S] w fun e w' => e = .returned (.int .i64 (ssv S.data.toList)) ∧ Below w.heap.size w w' := by
  obtain ⟨a, ha⟩ := fm_any infixB 18 S
  obtain ⟨b, hb⟩ := fm_any marksB 11 S
  have ea := fm_find (ws := infixL) infix_list (S := S) (m := a) (by rw [infix_len]; exact ha)
  have eb := fm_find (ws := marksL) marks_list (S := S) (m := b) (by rw [marks_len]; exact hb)
  rw [infix_len] at ea
  rw [marks_len] at eb
  have e : ssv S.data.toList = kS a b := by
    unfold ssv kS
    rw [ea, eb]
    by_cases ha2 : a < 18
    · simp [ha2]
    · by_cases hb2 : b < 11
      · simp [hb2, ha2]
      · simp [hb2, ha2]
  rw [e]
  exact spec_sign S a b ha hb w
/-- the longest sign at the head, from a size on downwards -/
def sgr (R : List UInt8) : Nat → Int × Nat
  | 0 => (0, 0)
  | s + 1 => if sv (R.take (s + 1)) = 0 then sgr R s else (sv (R.take (s + 1)), s + 1)
def sgAt (R : List UInt8) : Int × Nat := sgr R (min 3 R.length)
set_option maxRecDepth 100000 in
set_option maxHeartbeats 2000000 in
theorem impl_signs {B : Nat} {T : ByteArray} (L : List UInt8) (hT : T.data.toList = L) {k : Nat} {l : Int} {st : Bool} (hlen : T.size ≤ 65536) (hk : k ≤ L.length) (hB : 8 ≤ B) (w : World) (hg : Gd w) (h : Sb B T k l st w) :
    Calls Tryd.prog 68 #[.pointer (some ⟨B, 0, none⟩)] w fun e w' => e = .returned (tokV (sgAt (L.drop k)).1 0 0 0 0 ⟨#[]⟩) ∧ Mv B T ((k + (sgAt (L.drop k)).2 : Nat) : Int) l st w w' := by
  have hs : T.size = L.length := by rw [← hT]; simp
  obtain ⟨M, hM, hLM⟩ : ∃ M : Int, M ≤ 65536 ∧ (L.length : Int) ≤ M := ⟨L.length, by omega, Int.le_refl _⟩
  have hBlt : B < w.heap.size := h.lt
  have hnB : w.heap.size ≠ B := by omega
  have hz := Mz.start h
  have hgz : Gd (w.alloc (.cells #[.int .i64 0, .int .i64 0, .int .i64 0, .int .i64 0, .int .i64 0, .string ⟨#[]⟩] 33)) := hg.kb hB hz.1.1
  have c0 := hz.1.2.c0
  have c1 := hz.1.2.c1
  obtain ⟨W, hWe, HS⟩ : ∃ W, W = (w.alloc (.cells #[.int .i64 0, .int .i64 0, .int .i64 0, .int .i64 0, .int .i64 0, .string ⟨#[]⟩] 33)) ∧ Hid (Mz B w.heap.size T k l st w W ∧ Gd W) := ⟨_, rfl, (⟨hz, hgz⟩ : _ ∧ _)⟩
  rw [← hWe] at c0 c1
  have hkM : (k : Int) ≤ M := by omega
  have hmin : (3 : Int) ≤ (T.size : Int) - (k : Int) ∨ (T.size : Int) - (k : Int) < 3 := by omega
  have HT : Hid (T.data.toList = L) := hT
  clear hT hlen hg h hz hgz
  go_enter Tryd.func68, Tryd.ntmps68
  go_wp2_with fail
  rw [← hWe]
  clear hWe
  have hle : (k : Int) ≤ (T.size : Int) := by omega
  go_quiet (fail)
  clear c0 c1 hle hmin
  obtain ⟨W2, hWe2, HS2⟩ : ∃ W2, W2 = W.drewN nq ∧ Hid (Mz B w.heap.size T k l st w W2 ∧ Gd W2) := ⟨_, rfl, (⟨HS.1.drewN nq, ⟨HS.2.words, HS.2.marks, HS.2.infx, HS.2.err7, HS.2.err6, HS.2.size⟩⟩ : _ ∧ _)⟩
  rw [← hWe2]
  clear hWe2 HS
  go_wp2_with fail
  go_loopw [3] (fun v wr => ∃ s : Nat, v = .int .i64 (s : Int) ∧ s ≤ 3 ∧ k + s ≤ L.length ∧ Hid (Mz B w.heap.size T k l st w wr ∧ Gd wr ∧ sgAt (L.drop k) = sgr (L.drop k) s)) (fun v _ => (intOf v).toNat)
  case atStart =>
    refine ⟨min 3 (L.length - k), ?_, by omega, by omega, (⟨HS2.1, HS2.2, by unfold sgAt; rw [List.length_drop]⟩ : _ ∧ _ ∧ _)⟩
    congr 1
    omega
  case round =>
    clear HS2
    obtain ⟨s, rfl, hs3, hsl, HR⟩ := hrel
    obtain ⟨hK, hG, hE⟩ := (show Mz B w.heap.size T k l st w wr ∧ Gd wr ∧ sgAt (L.drop k) = sgr (L.drop k) s from HR)
    clear HR
    have b0 := hK.1.2.c0
    have b1 := hK.1.2.c1
    by_cases h0 : 0 < s
    · obtain ⟨s', rfl⟩ : ∃ s', s = s' + 1 := ⟨s - 1, by omega⟩
      have hsl : ∀ W : World, (Instr.slice 9 (.string T) (some (.int .i64 (k : Int))) (some (.int .i64 ((k : Int) + ((s' : Int) + 1)))) none).run Tryd.prog W = .ok (.string (T.extract k (k + (s' + 1)))) W := by
        intro W
        rw [run_slice_string (P := Tryd.prog) W 9 T .i64 .i64 (k : Int) ((k : Int) + ((s' : Int) + 1)) Tryd.underlying9 (by omega) (by omega) (by omega)]
        have e2 : ((k : Int) + ((s' : Int) + 1)).toNat = k + (s' + 1) := by omega
        rw [e2]
        simp
      have hX : (T.extract k (k + (s' + 1))).data.toList = (L.drop k).take (s' + 1) := by rw [ext_list, show T.data.toList = L from HT]; congr 1; omega
      have hsr := fun q => sign_run (T.extract k (k + (s' + 1))) (wr.drewN q) ⟨hG.words, hG.marks, hG.infx, hG.err7, hG.err6, hG.size⟩
      rw [hX] at hsr
      have hs3I : (s' : Int) + 1 ≤ 3 := by omega
      have hkM : (k : Int) ≤ M := by omega
      by_cases hv : sv ((L.drop k).take (s' + 1)) = 0
      · have HN : Hid (∀ q, Mz B w.heap.size T k l st w (wr.drewN q) ∧ Gd (wr.drewN q) ∧ sgAt (L.drop k) = sgr (L.drop k) s') :=
          (fun q => ⟨hK.drewN q, ⟨hG.words, hG.marks, hG.infx, hG.err7, hG.err6, hG.size⟩, by rw [hE, sgr, if_pos hv]⟩ : ∀ q, Mz B w.heap.size T k l st w (wr.drewN q) ∧ Gd (wr.drewN q) ∧ sgAt (L.drop k) = sgr (L.drop k) s')
        rw [hv] at hsr
        clear hK hG hE hX HT hv
        generalize T.extract k (k + (s' + 1)) = S at *
        go_wp2_with fail
        go_quiet ((go_at_call 82; exact Calls.quiet_of_same (hsr _)))
        go_wp2_with fail
        have hN := (show ∀ q, _ from HN) nq
        refine ⟨⟨s', by go_num, by omega, by omega, hN⟩, ?_⟩
        simp [intOf]
      · have HE : Hid (sgAt (L.drop k) = (sv ((L.drop k).take (s' + 1)), s' + 1)) := by show sgAt (L.drop k) = _; rw [hE, sgr, if_neg hv]
        have HKA : Hid (∀ q, Mz B w.heap.size T k l st w (wr.drewN q)) := (fun q => hK.drewN q : ∀ q, Mz B w.heap.size T k l st w (wr.drewN q))
        have hvb : (sv ((L.drop k).take (s' + 1)) != 0) = true := by simpa using hv
        clear hK hG hE hX HT hv
        generalize T.extract k (k + (s' + 1)) = S at *
        generalize sv ((L.drop k).take (s' + 1)) = v at *
        go_wp2_with fail
        go_quiet ((go_at_call 82; exact Calls.quiet_of_same (hsr _)))
        obtain ⟨W3, hWe3, hK3⟩ : ∃ W3, W3 = wr.drewN nq ∧ Mz B w.heap.size T k l st w W3 := ⟨_, rfl, (show ∀ q, _ from HKA) nq⟩
        rw [← hWe3]
        clear b0 b1 hsr HKA hWe3
        have b1 := hK3.1.2.c1
        have f1 := hK3.1.2.fz 1
        have h4 := hK3.set1 hnB ((k : Int) + ((s' : Int) + 1))
        have HM4 : Hid (Mv B T ((k + (s' + 1) : Nat) : Int) l st w (W3.setCell ⟨B, 1, none⟩ (.int .i64 ((k : Int) + ((s' : Int) + 1))))) := h4.1
        have z3 := h4.2
        have g0 := z3.c0
        have g1 := z3.c1
        have g2 := z3.c2
        have g3 := z3.c3
        have g4 := z3.c4
        have g5 := z3.c5
        have y0 := z3.f0
        have y1 := z3.f1
        have y2 := z3.f2
        have y3 := z3.f3
        have y4 := z3.f4
        have y5 := z3.f5
        have e0 := st6_c0 z3
        have e1 := st6_c1 z3
        have e2 := st6_c2 z3
        have e3 := st6_c3 z3
        have e4 := st6_c4 z3
        have e5 := st6_c5 z3
        clear hK3 h4 z3
        go_wp2_with fail
        refine bodyPost_ret (by simp [results, Tryd.results68, go_sem, e0, e1, e2, e3, e4, e5]; rfl) rfl ?_
        have hEE := (show sgAt (L.drop k) = (v, s' + 1) from HE)
        rw [hEE]
        refine ⟨rfl, ?_⟩
        exact st6_mv HM4 (Nat.le_refl _) hnB _ _ _ _ _ _
    · obtain rfl : s = 0 := by omega
      have HE : Hid (sgAt (L.drop k) = (0, 0)) := by show sgAt (L.drop k) = _; rw [hE]; rfl
      have HM4 : Hid (Mv B T (k : Int) l st w wr) := hK.1
      have z3 := hK.2
      have g0 := z3.c0
      have g1 := z3.c1
      have g2 := z3.c2
      have g3 := z3.c3
      have g4 := z3.c4
      have g5 := z3.c5
      have y0 := z3.f0
      have y1 := z3.f1
      have y2 := z3.f2
      have y3 := z3.f3
      have y4 := z3.f4
      have y5 := z3.f5
      have e0 := st6_c0 z3
      have e1 := st6_c1 z3
      have e2 := st6_c2 z3
      have e3 := st6_c3 z3
      have e4 := st6_c4 z3
      have e5 := st6_c5 z3
      clear hK hG hE z3 HT
      go_wp2_with fail
      refine bodyPost_ret (by simp [results, Tryd.results68, go_sem, e0, e1, e2, e3, e4, e5]; rfl) rfl ?_
      have hEE := (show sgAt (L.drop k) = (0, 0) from HE)
      rw [hEE]
      refine ⟨rfl, ?_⟩
      exact st6_mv HM4 (Nat.le_refl _) hnB _ _ _ _ _ _
end Go.Proofs.YtogenhnonjkanaaDoor
