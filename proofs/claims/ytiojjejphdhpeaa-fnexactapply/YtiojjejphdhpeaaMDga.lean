import Derived.Test.YtiojjejphdhpeaaMDfd
import Derived.Test.YtiojjejphdhpeaaMDeg
namespace Go.Proofs.Ytiojjejphdhpeaa.Fo
open Go.ChangeShapes Go.WideShapes Go.ChangeAt Go.RowKit
set_option linter.unusedVariables false
set_option maxRecDepth 100000
set_option linter.unusedSimpArgs false
theorem wpList_callF {P : Program} {ops : Array Oper} {rest : List Oper} {o : Oper} {a : Act} {w : World} {Q : Exit → Act → World → Prop} (hg : o.guard = none) (d : Option Tmp) (hd : o.dst = d)
    (f : FuncId) (args : Array Value) (hrun : (execOp a.eval o).run P w = .ok (.enter f args) w) {v : Value} {R : World → Prop}
    (hc : Calls P f args w fun e w'' => e = .returned v ∧ R w'')
    (h : ∀ w', R w' → wpList P ops Q rest (a.put d v) w') : wpList P ops Q (o :: rest) a w := by
  subst hd
  refine wpList_plain hg fun K hK => ?_
  unfold Oper.wp
  rw [hrun, Oper.upon_enter]
  refine hc.mono fun e w'' hh => ?_
  obtain ⟨rfl, hr⟩ := hh
  exact hK _ _ (h _ hr)
/-- a function that has a body and is entered -/
def EntB (f : FuncId) : Prop := ∃ fn, Try.prog.funcs[f]? = some fn ∧ (fn.name == "runtime.NumGoroutine") = false ∧ fn.body.isNone = false
theorem run_fv {ρ : Operand → Value} {o : Oper} (t x : Operand) (ats : Array TypeId) (ho : o.op = .call { callee := .value t, args := #[x], argTypes := ats }) (f : FuncId) (cs : Array Value) (v : Value) (ht : ρ t = .func (.func f) #[] cs) (hx : ρ x = v) (he : EntB f) (w : World) :
    (execOp ρ o).run Try.prog w = .ok (.enter f (#[v] ++ cs)) w := by
  obtain ⟨fn, hf, h1, h2⟩ := he
  simp at h1 h2
  unfold execOp
  simp [ho, resolve, Deferred.ofValue, ht, hx, invoke, callFunc, go_sem, hf, h1]
  intro h3
  rw [h3] at h2
  cases h2
/-- what a step of a disk does: with pages P and writes Q that wait -/
structure StepAt (w : World) (f : FuncId) (cs : Array Value) (ok : Bool) (P : Nat → Nat → Int) (m : Nat) (Q : Nat → Ed) (P' : Nat → Nat → Int) (m' : Nat) (Q' : Nat → Ed) : Prop where
  ent : EntB f
  run : ∀ (w2 : World) (dv : Nat) (vw : Value) (W : World), Kb 0 w w2 → Dr w2 dv P m Q vw W → Calls Try.prog f (#[.pointer (some ⟨dv, 0, none⟩)] ++ cs) W fun e w' => e = .returned (.bool ok) ∧ Kb 0 w2 w' ∧ (ok = true → ∃ vw', Dr w2 dv P' m' Q' vw' w')
set_option maxHeartbeats 16000000 in
theorem im_behind_yes {v1 v2 vs : Value} {D : Dd} {f : Nat → FuncId} {cs : Nat → Array Value} {P : Nat → Nat → Nat → Int} {m : Nat → Nat} {Q : Nat → Nat → Ed} (w : World) (ha : RowD 0 w v1 v2 D) (hd : BdD D) (hok : Dok D) (K : Nat) (hK : (K : Int) < 1152921504606846976) {D2 : Dd} (hdk : ∀ (w2 : World) (dv : Nat) (vw : Value) (wr : World), Kb 0 w w2 → Dr w2 dv (P K) (m K) (Q K) vw wr → Calls Try.prog 82 #[.pointer (some ⟨dv, 0, none⟩)] wr fun e w' => ∃ y1 y2, e = .returned (.agg #[y1, y2]) ∧ OwD wr.heap.size w'.heap.size w' y1 y2 D2 ∧ Kb 0 wr w') (h0 : P 0 = dpg D ∧ m 0 = D.m ∧ Q 0 = D.Q) (hs : RowV w vs K (fun i => .func (.func (f i)) #[] (cs i))) (hst : ∀ i, i < K → StepAt w (f i) (cs i) true (P i) (m i) (Q i) (P (i + 1)) (m (i + 1)) (Q (i + 1))) :
    Calls Try.prog 48 #[.agg #[v1, v2], vs] w fun e w' => ∃ u1 u2, e = .returned (.agg #[u1, u2]) ∧ OwD w.heap.size w'.heap.size w' u1 u2 D2 ∧ Kb 0 w w' := by
  obtain ⟨ps, cp, rfl, hs2⟩ := id hs
  obtain ⟨⟨p1, c1, rfl, -⟩, ⟨p2, c2, rfl, -⟩⟩ := id ha
  obtain ⟨w2, hw2⟩ : ∃ w2, w2 = (w.alloc (.cells #[.slice p1 D.n c1, .slice p2 D.m c2] 30)).alloc (.cells #[.slice none 0 0, .slice none 0 0] 30) := ⟨_, rfl⟩
  obtain ⟨b0, b1, z2, k2⟩ := two_newD w _ _ _ _ w2 hw2
  have u0 : w2.cell? ⟨w.heap.size, 0, none⟩ = some (.slice p1 D.n c1) := cell_of b0 rfl
  have u1 : w2.cell? ⟨w.heap.size, 1, none⟩ = some (.slice p2 D.m c2) := cell_of b0 rfl
  have HB : Hid (Kb 0 w w2 ∧ w2.heap[w.heap.size]? = some (.cells #[.slice p1 D.n c1, .slice p2 D.m c2] 30 (0, 0)) ∧ w2.heap[w.heap.size + 1]? = some (.cells #[.slice none 0 0, .slice none 0 0] 30 (0, 0)) ∧ w2.heap.size = w.heap.size + 2) := (⟨k2, b0, b1, z2⟩ : _ ∧ _)
  have HW2 : Hid (w2 = (w.alloc (.cells #[.slice p1 D.n c1, .slice p2 D.m c2] 30)).alloc (.cells #[.slice none 0 0, .slice none 0 0] 30)) := hw2
  have HI := im_drive w2 (ha.keep k2) hd hok
  have HE0 : Hid (∀ dv vw W, Dr w2 dv (dpg D) D.m D.Q vw W → Dr w2 dv (P 0) (m 0) (Q 0) vw W) := (fun dv vw W h => by rw [h0.1, h0.2.1, h0.2.2]; exact h : ∀ dv vw W, _)
  have HSB : Hid (∀ W, Kb 0 w2 W → ∀ i, i < K → ∃ aw : Addr, ps = some aw ∧ K ≤ cp ∧ W.cell? (aw.add i) = some (.func (.func (f i)) #[] (cs i))) := (fun W k i hi => by
    obtain ⟨aw, h1, h2, h3⟩ := hs2 (by omega)
    exact ⟨aw, h1, h2, (k2.trans k).cell (h3 i hi)⟩ : ∀ W, _)
  have HST : Hid (∀ i, i < K → EntB (f i) ∧ ∀ dv vw wr, Dr w2 dv (P i) (m i) (Q i) vw wr → Calls Try.prog (f i) (#[.pointer (some ⟨dv, 0, none⟩)] ++ cs i) wr fun e w' => e = .returned (.bool true) ∧ Kb 0 w2 w' ∧ ∃ vw', Dr w2 dv (P (i + 1)) (m (i + 1)) (Q (i + 1)) vw' w') := (fun i hi => ⟨(hst i hi).ent, fun dv vw wr h => by
    refine ((hst i hi).run w2 dv vw wr k2 h).mono ?_
    rintro e w' ⟨rfl, h1, h2⟩
    exact ⟨rfl, h1, h2 rfl⟩⟩ : ∀ i, _)
  have HDK : Hid (∀ dv vw wr, Dr w2 dv (P K) (m K) (Q K) vw wr → Calls Try.prog 82 #[.pointer (some ⟨dv, 0, none⟩)] wr fun e w' => ∃ y1 y2, e = .returned (.agg #[y1, y2]) ∧ OwD wr.heap.size w'.heap.size w' y1 y2 D2 ∧ Kb 0 wr w') := (fun dv vw wr h => hdk w2 dv vw wr k2 h : ∀ dv vw wr, _)
  clear hw2 b0 b1 z2 k2 ha hd hok hs hs2 h0 hst hdk
  go_enter Try.func48, Try.ntmps48
  go_upto_region 1 with fail
  rw [← (show w2 = _ from HW2)]
  clear HW2
  go_wp2_with fail
  refine HI.mono ?_
  rintro e w3 ⟨dv, vw, rfl, hD⟩
  have HD0 : Hid (∃ vw, Dr w2 dv (P 0) (m 0) (Q 0) vw w3) := (⟨vw, (show ∀ dv vw W, _ from HE0) dv vw w3 hD⟩ : ∃ vw, Dr w2 dv (P 0) (m 0) (Q 0) vw w3)
  clear HE0
  clear HI u0 u1 hD
  go_wp2_with fail
  go_loopw [15] (fun s15 wr => ∃ i : Nat, s15 = .int .i64 (i : Int) ∧ i ≤ K ∧ Hid (∃ vw, Dr w2 dv (P i) (m i) (Q i) vw wr)) (fun s15 _ => K - (intOf s15).toNat)
  case atStart => exact ⟨0, rfl, Nat.zero_le _, HD0⟩
  case round =>
    clear HD0
    obtain ⟨i, rfl, hil, HX⟩ := hrel
    by_cases hi : i < K
    case pos =>
      obtain ⟨vw, hD⟩ := (show ∃ vw, Dr w2 dv (P i) (m i) (Q i) vw wr from HX)
      have hiI : (i : Int) < (K : Int) := by omega
      obtain ⟨aw, rfl, hcp, c0⟩ := (show ∀ W, Kb 0 w2 W → ∀ i, i < K → _ from HSB) wr hD.kb i (by omega)
      obtain ⟨hent, HSx⟩ := (show ∀ i, i < K → _ from HST) i hi
      have HS : Calls Try.prog (f i) _ wr _ := HSx dv vw wr hD
      obtain ⟨fi, hfi⟩ : ∃ fi, fi = f i := ⟨_, rfl⟩
      obtain ⟨ci, hci⟩ : ∃ ci, ci = cs i := ⟨_, rfl⟩
      rw [← hfi, ← hci] at HS c0
      rw [← hfi] at hent
      clear hD HST HSB HX HSx hfi hci HDK
      go_upto_region 7 with fail
      clear c0
      go_wp2_with (refine wpList_callF (by rfl) (some 21) (by rfl) fi _ (run_fv (.tmp 19) (.tmp 20) _ (by rfl) fi ci _ (by rfl) (by rfl) hent _) HS ?_)
      rintro w4 ⟨-, hD4⟩
      have HN : Hid (∃ vw, Dr w2 dv (P (i + 1)) (m (i + 1)) (Q (i + 1)) vw w4) := hD4
      clear HS hD4 hent
      go_wp2_with fail
      go_roundw
      case rel => exact ⟨i + 1, by go_num, by omega, HN⟩
      case measure => simp [intOf]; omega
    case neg =>
      obtain rfl : i = K := by omega
      obtain ⟨vw, hD⟩ := (show ∃ vw, Dr w2 dv (P i) (m i) (Q i) vw wr from HX)
      have HC := (show ∀ dv vw wr, _ from HDK) dv vw wr hD
      have HKR : Hid (Kb 0 w2 wr) := hD.kb
      clear hD HST HSB HX HDK hil hi
      go_wp2_with fail
      refine HC.mono ?_
      rintro e w4 ⟨y1, y2, rfl, o4, k4⟩
      obtain ⟨s1, e1, s2, e2, rfl, rfl⟩ := o4.shape
      have k24 := (show Kb 0 w2 wr from HKR).trans k4
      obtain ⟨kw2, b0, b1, z2⟩ := (show _ ∧ _ ∧ _ ∧ _ from HB)
      have r := (k24.block (w.heap.size + 1) (Nat.zero_le _) (by omega)).trans b1
      have a0 : w4.cell? ⟨w.heap.size + 1, 0, none⟩ = some (.slice none 0 0) := cell_of r rfl
      have a1 : w4.cell? ⟨w.heap.size + 1, 1, none⟩ = some (.slice none 0 0) := cell_of r rfl
      have fy : ∀ j, w4.frozen? ⟨w.heap.size + 1, j, none⟩ = false := fun j => frozen_of r
      obtain ⟨WF, hWF⟩ : ∃ WF, WF = (w4.setCell ⟨w.heap.size + 1, 0, none⟩ (.slice s1 D2.n e1)).setCell ⟨w.heap.size + 1, 1, none⟩ (.slice s2 D2.m e2) := ⟨_, rfl⟩
      have zF : WF.heap.size = w4.heap.size := by rw [hWF]; simp
      have bF : ∀ q, q ≠ w.heap.size + 1 → WF.heap[q]? = w4.heap[q]? := fun q hq => by
        rw [hWF, Below.heap_setCell _ _ _ _ (show q ≠ w.heap.size + 1 from hq), Below.heap_setCell _ _ _ _ (show q ≠ w.heap.size + 1 from hq)]
      have rF : WF.heap[w.heap.size + 1]? = some (.cells #[.slice s1 D2.n e1, .slice s2 D2.m e2] 30 (0, 0)) := by
        rw [hWF]
        exact set_known _ (set_known _ r)
      have f3 : WF.cell? ⟨w.heap.size + 1, 0, none⟩ = some (.slice s1 D2.n e1) := cell_of rF rfl
      have f4 : WF.cell? ⟨w.heap.size + 1, 1, none⟩ = some (.slice s2 D2.m e2) := cell_of rF rfl
      have kF : Kb 0 w WF := by rw [hWF]; exact ((kw2.trans k24).setCell _ (.inr (by show _ ≤ w.heap.size + 1; omega)) _).setCell _ (.inr (by show _ ≤ w.heap.size + 1; omega)) _
      have oF : OwD w.heap.size WF.heap.size WF (.slice s1 D2.n e1) (.slice s2 D2.m e2) D2 := by
        rw [zF]
        have := (show Kb 0 w2 wr from HKR).size
        exact (o4.block (fun q h1 h2 => bF q (by omega))).wide (by omega) (Nat.le_refl _)
      have HF : Hid (OwD w.heap.size WF.heap.size WF (.slice s1 D2.n e1) (.slice s2 D2.m e2) D2 ∧ Kb 0 w WF) := (⟨oF, kF⟩ : _ ∧ _)
      have HWF : Hid (WF = _) := hWF
      clear HC o4 k4 k24 kw2 b0 b1 z2 r zF bF rF hWF oF kF HB HKR
      go_wp2_with fail
      rw [← (show WF = _ from HWF)]
      clear HWF
      refine bodyPost_ret (by simp [results, Try.results48, go_sem, f3, f4]; rfl) rfl ?_
      exact ⟨_, _, rfl, HF⟩
set_option maxHeartbeats 16000000 in
theorem im_behind_stop {v1 v2 vs : Value} {D : Dd} {f : Nat → FuncId} {cs : Nat → Array Value} {P : Nat → Nat → Nat → Int} {m : Nat → Nat} {Q : Nat → Nat → Ed} (w : World) (ha : RowD 0 w v1 v2 D) (hd : BdD D) (hok : Dok D) (K : Nat) (hK : (K : Int) < 1152921504606846976) (K0 : Nat) (hK0 : K0 < K) (hsp : StepAt w (f K0) (cs K0) false (P K0) (m K0) (Q K0) (P K0) (m K0) (Q K0)) (h0 : P 0 = dpg D ∧ m 0 = D.m ∧ Q 0 = D.Q) (hs : RowV w vs K (fun i => .func (.func (f i)) #[] (cs i))) (hst : ∀ i, i < K0 → StepAt w (f i) (cs i) true (P i) (m i) (Q i) (P (i + 1)) (m (i + 1)) (Q (i + 1))) :
    Calls Try.prog 48 #[.agg #[v1, v2], vs] w fun e w' => e = .returned (.agg #[.slice none 0 0, .slice none 0 0]) ∧ Kb 0 w w' := by
  obtain ⟨ps, cp, rfl, hs2⟩ := id hs
  obtain ⟨⟨p1, c1, rfl, -⟩, ⟨p2, c2, rfl, -⟩⟩ := id ha
  obtain ⟨w2, hw2⟩ : ∃ w2, w2 = (w.alloc (.cells #[.slice p1 D.n c1, .slice p2 D.m c2] 30)).alloc (.cells #[.slice none 0 0, .slice none 0 0] 30) := ⟨_, rfl⟩
  obtain ⟨b0, b1, z2, k2⟩ := two_newD w _ _ _ _ w2 hw2
  have u0 : w2.cell? ⟨w.heap.size, 0, none⟩ = some (.slice p1 D.n c1) := cell_of b0 rfl
  have u1 : w2.cell? ⟨w.heap.size, 1, none⟩ = some (.slice p2 D.m c2) := cell_of b0 rfl
  have HB : Hid (Kb 0 w w2 ∧ w2.heap[w.heap.size]? = some (.cells #[.slice p1 D.n c1, .slice p2 D.m c2] 30 (0, 0)) ∧ w2.heap[w.heap.size + 1]? = some (.cells #[.slice none 0 0, .slice none 0 0] 30 (0, 0)) ∧ w2.heap.size = w.heap.size + 2) := (⟨k2, b0, b1, z2⟩ : _ ∧ _)
  have HW2 : Hid (w2 = (w.alloc (.cells #[.slice p1 D.n c1, .slice p2 D.m c2] 30)).alloc (.cells #[.slice none 0 0, .slice none 0 0] 30)) := hw2
  have HI := im_drive w2 (ha.keep k2) hd hok
  have HE0 : Hid (∀ dv vw W, Dr w2 dv (dpg D) D.m D.Q vw W → Dr w2 dv (P 0) (m 0) (Q 0) vw W) := (fun dv vw W h => by rw [h0.1, h0.2.1, h0.2.2]; exact h : ∀ dv vw W, _)
  have HSB : Hid (∀ W, Kb 0 w2 W → ∀ i, i < K → ∃ aw : Addr, ps = some aw ∧ K ≤ cp ∧ W.cell? (aw.add i) = some (.func (.func (f i)) #[] (cs i))) := (fun W k i hi => by
    obtain ⟨aw, h1, h2, h3⟩ := hs2 (by omega)
    exact ⟨aw, h1, h2, (k2.trans k).cell (h3 i hi)⟩ : ∀ W, _)
  have HST : Hid (∀ i, i < K0 → EntB (f i) ∧ ∀ dv vw wr, Dr w2 dv (P i) (m i) (Q i) vw wr → Calls Try.prog (f i) (#[.pointer (some ⟨dv, 0, none⟩)] ++ cs i) wr fun e w' => e = .returned (.bool true) ∧ Kb 0 w2 w' ∧ ∃ vw', Dr w2 dv (P (i + 1)) (m (i + 1)) (Q (i + 1)) vw' w') := (fun i hi => ⟨(hst i hi).ent, fun dv vw wr h => by
    refine ((hst i hi).run w2 dv vw wr k2 h).mono ?_
    rintro e w' ⟨rfl, h1, h2⟩
    exact ⟨rfl, h1, h2 rfl⟩⟩ : ∀ i, _)
  have HSP : Hid (EntB (f K0) ∧ ∀ dv vw wr, Dr w2 dv (P K0) (m K0) (Q K0) vw wr → Calls Try.prog (f K0) (#[.pointer (some ⟨dv, 0, none⟩)] ++ cs K0) wr fun e w' => e = .returned (.bool false) ∧ Kb 0 w2 w') := (⟨hsp.ent, fun dv vw wr h => by
    refine (hsp.run w2 dv vw wr k2 h).mono ?_
    rintro e w' ⟨rfl, h1, -⟩
    exact ⟨rfl, h1⟩⟩ : _ ∧ _)
  have HKK : Hid (K0 < K) := hK0
  clear hw2 b0 b1 z2 k2 ha hd hok hs hs2 h0 hst hsp hK0
  go_enter Try.func48, Try.ntmps48
  go_upto_region 1 with fail
  rw [← (show w2 = _ from HW2)]
  clear HW2
  go_wp2_with fail
  refine HI.mono ?_
  rintro e w3 ⟨dv, vw, rfl, hD⟩
  have HD0 : Hid (∃ vw, Dr w2 dv (P 0) (m 0) (Q 0) vw w3) := (⟨vw, (show ∀ dv vw W, _ from HE0) dv vw w3 hD⟩ : ∃ vw, Dr w2 dv (P 0) (m 0) (Q 0) vw w3)
  clear HE0
  clear HI u0 u1 hD
  go_wp2_with fail
  go_loopw [15] (fun s15 wr => ∃ i : Nat, s15 = .int .i64 (i : Int) ∧ i ≤ K0 ∧ Hid (∃ vw, Dr w2 dv (P i) (m i) (Q i) vw wr)) (fun s15 _ => K - (intOf s15).toNat)
  case atStart => exact ⟨0, rfl, Nat.zero_le _, HD0⟩
  case round =>
    clear HD0
    obtain ⟨i, rfl, hil, HX⟩ := hrel
    have hKK : K0 < K := HKK
    by_cases hi : i < K0
    case pos =>
      obtain ⟨vw, hD⟩ := (show ∃ vw, Dr w2 dv (P i) (m i) (Q i) vw wr from HX)
      have hiI : (i : Int) < (K : Int) := by omega
      obtain ⟨aw, rfl, hcp, c0⟩ := (show ∀ W, Kb 0 w2 W → ∀ i, i < K → _ from HSB) wr hD.kb i (by omega)
      obtain ⟨hent, HSx⟩ := (show ∀ i, i < K0 → _ from HST) i hi
      have HS : Calls Try.prog (f i) _ wr _ := HSx dv vw wr hD
      obtain ⟨fi, hfi⟩ : ∃ fi, fi = f i := ⟨_, rfl⟩
      obtain ⟨ci, hci⟩ : ∃ ci, ci = cs i := ⟨_, rfl⟩
      rw [← hfi, ← hci] at HS c0
      rw [← hfi] at hent
      clear hD HST HSB HX HSx hfi hci HSP HKK
      go_upto_region 7 with fail
      clear c0
      go_wp2_with (refine wpList_callF (by rfl) (some 21) (by rfl) fi _ (run_fv (.tmp 19) (.tmp 20) _ (by rfl) fi ci _ (by rfl) (by rfl) hent _) HS ?_)
      rintro w4 ⟨-, hD4⟩
      have HN : Hid (∃ vw, Dr w2 dv (P (i + 1)) (m (i + 1)) (Q (i + 1)) vw w4) := hD4
      clear HS hD4 hent
      go_wp2_with fail
      go_roundw
      case rel => exact ⟨i + 1, by go_num, by omega, HN⟩
      case measure => simp [intOf]; omega
    case neg =>
      obtain rfl : i = K0 := by omega
      obtain ⟨vw, hD⟩ := (show ∃ vw, Dr w2 dv (P i) (m i) (Q i) vw wr from HX)
      have hiI : (i : Int) < (K : Int) := by omega
      obtain ⟨aw, rfl, hcp, c0⟩ := (show ∀ W, Kb 0 w2 W → ∀ i, i < K → _ from HSB) wr hD.kb i (by omega)
      obtain ⟨hent, HSx⟩ := (show _ ∧ _ from HSP)
      have HS : Calls Try.prog (f i) _ wr _ := HSx dv vw wr hD
      obtain ⟨fi, hfi⟩ : ∃ fi, fi = f i := ⟨_, rfl⟩
      obtain ⟨ci, hci⟩ : ∃ ci, ci = cs i := ⟨_, rfl⟩
      rw [← hfi, ← hci] at HS c0
      rw [← hfi] at hent
      clear hD HST HSB HX HSx hfi hci HSP HKK
      go_upto_region 7 with fail
      clear c0
      go_wp2_with (refine wpList_callF (by rfl) (some 21) (by rfl) fi _ (run_fv (.tmp 19) (.tmp 20) _ (by rfl) fi ci _ (by rfl) (by rfl) hent _) HS ?_)
      intro w4 k24
      obtain ⟨kw2, b0, b1, z2⟩ := (show _ ∧ _ ∧ _ ∧ _ from HB)
      have r := (k24.block (w.heap.size + 1) (Nat.zero_le _) (by omega)).trans b1
      have a0 : w4.cell? ⟨w.heap.size + 1, 0, none⟩ = some (.slice none 0 0) := cell_of r rfl
      have a1 : w4.cell? ⟨w.heap.size + 1, 1, none⟩ = some (.slice none 0 0) := cell_of r rfl
      have fy : ∀ j, w4.frozen? ⟨w.heap.size + 1, j, none⟩ = false := fun j => frozen_of r
      obtain ⟨WF, hWF⟩ : ∃ WF, WF = (w4.setCell ⟨w.heap.size + 1, 0, none⟩ (.slice none 0 0)).setCell ⟨w.heap.size + 1, 1, none⟩ (.slice none 0 0) := ⟨_, rfl⟩
      have zF : WF.heap.size = w4.heap.size := by rw [hWF]; simp
      have bF : ∀ q, q ≠ w.heap.size + 1 → WF.heap[q]? = w4.heap[q]? := fun q hq => by
        rw [hWF, Below.heap_setCell _ _ _ _ (show q ≠ w.heap.size + 1 from hq), Below.heap_setCell _ _ _ _ (show q ≠ w.heap.size + 1 from hq)]
      have rF : WF.heap[w.heap.size + 1]? = some (.cells #[.slice none 0 0, .slice none 0 0] 30 (0, 0)) := by
        rw [hWF]
        exact set_known _ (set_known _ r)
      have f3 : WF.cell? ⟨w.heap.size + 1, 0, none⟩ = some (.slice none 0 0) := cell_of rF rfl
      have f4 : WF.cell? ⟨w.heap.size + 1, 1, none⟩ = some (.slice none 0 0) := cell_of rF rfl
      have kF : Kb 0 w WF := by rw [hWF]; exact ((kw2.trans k24).setCell _ (.inr (by show _ ≤ w.heap.size + 1; omega)) _).setCell _ (.inr (by show _ ≤ w.heap.size + 1; omega)) _
      have HF : Hid (Kb 0 w WF) := kF
      have HWF : Hid (WF = _) := hWF
      clear HS HB kw2 b0 b1 z2 r k24 zF bF rF kF hWF hent
      go_wp2_with fail
      rw [← (show WF = _ from HWF)]
      clear HWF
      refine bodyPost_ret (by simp [results, Try.results48, go_sem, f3, f4]; rfl) rfl ?_
      exact ⟨rfl, HF⟩
end Go.Proofs.Ytiojjejphdhpeaa.Fo
