import Derived.Test.YtgpbmmhfhjobkaaBao
namespace Go.Proofs.Ytgpbmmhfhjobkaa
open Go.ChangeShapes Go.WideShapes Go.ChangeAt Go.RowKit
set_option linter.unusedVariables false
set_option maxRecDepth 100000 in
set_option maxHeartbeats 4000000 in
theorem clone_strs {va : Value} {n : Nat} {A : Nat → ByteArray} (w : World) (ha : RowV w va n (fun i => .string (A i))) (hn : n ≤ 1048576) (hA : ∀ i, i < n → (A i).size ≤ 140737488355328) :
    Calls Try.prog 15 #[va] w fun e w' => ∃ v g, e = .returned v ∧ OwnR w' v g n (fun i => .string (A i)) ∧ (0 < n → w.heap.size ≤ g ∧ g < w'.heap.size) ∧ Below w.heap.size w w' := by
  have hc := clone_strs0 w ha hn
  have HA : Hid (∀ i, i < n → (A i).size ≤ 140737488355328) := hA
  have hnI : (n : Int) ≤ 1048576 := by omega
  clear ha hn hA
  go_enter Try.func15, Try.ntmps15
  go_wp2_with fail
  refine hc.mono ?_
  rintro e w1 ⟨v, g, rfl, ow, hg, hb⟩
  obtain ⟨pa, ca, rfl, ha2⟩ := ow.sl
  by_cases h0 : n = 0
  · subst h0
    have HF : Hid (OwnR w1 (.slice pa 0 ca) g 0 (fun i => .string (A i)) ∧ Below w.heap.size w w1) := (⟨ow, hb⟩ : _ ∧ _)
    clear ow hb hg ha2 HA hc
    go_wp2_with fail
    refine wp_loop_rounds 1 ?_
    rw [rounds_succ]
    go_wp2_with fail
    go_ret
    exact ⟨_, g, rfl, HF.1, fun f => by omega, HF.2⟩
  · obtain ⟨rfl, hca⟩ := ha2 (by omega)
    have HI0 : Hid (MkR w1 g n (fun i => .string (A i)) (fun i => .string (A i)) 0 w1) := (⟨Kq.refl _ _, fun i hi => by omega, fun i _ hi => ow.cell i hi, ow.fz (by omega)⟩ : MkR w1 g n _ _ 0 w1)
    have HF : Hid (Below w.heap.size w w1 ∧ w.heap.size ≤ g ∧ g < w1.heap.size) := (⟨hb, hg (by omega)⟩ : _ ∧ _)
    clear ow hb hg ha2 hc h0
    go_wp2_with fail
    go_loopw [10] (fun s10 wr => ∃ i : Nat, s10 = .int .i64 (i : Int) ∧ i ≤ n ∧ Hid (MkR w1 g n (fun i => .string (A i)) (fun i => .string (A i)) i wr)) (fun s10 _ => n - (intOf s10).toNat)
    case atStart => exact ⟨0, rfl, Nat.zero_le _, HI0⟩
    case round =>
      clear HI0
      obtain ⟨i, rfl, hin, HI⟩ := hrel
      have hI := (show MkR w1 g n (fun i => .string (A i)) (fun i => .string (A i)) i wr from HI)
      rcases Nat.lt_or_ge i n with hi | hi
      · have hiI : (i : Int) < (n : Int) := by omega
        have HST : Hid (∀ w6, Below wr.heap.size wr w6 → w6.cell? ⟨g, i, none⟩ = some (.string (A i)) ∧ w6.frozen? ⟨g, i, none⟩ = false ∧ MkR w1 g n (fun i => .string (A i)) (fun i => .string (A i)) (i + 1) (w6.setCell ⟨g, i, none⟩ (.string (A i)))) := (fun w6 hb => hI.step hi hb : ∀ w6, _)
        have c0 := (hI.step hi (Below.refl _ _)).1
        have hcl := fun W => clone_str (A i) W ((show ∀ i, i < n → (A i).size ≤ 140737488355328 from HA) i hi)
        clear hI HI hin
        obtain ⟨X, hX⟩ : ∃ X, X = A i := ⟨_, rfl⟩
        have HX : Hid (X = A i) := hX
        rw [← hX] at hcl c0
        clear hX
        go_wp2_with fail
        refine (hcl _).mono ?_
        rintro e w6 ⟨rfl, hb6⟩
        obtain ⟨c5, f5, hM⟩ := (show ∀ w6, Below wr.heap.size wr w6 → _ from HST) w6 hb6
        rw [← show X = A i from HX] at hM c5
        have HM : Hid (MkR w1 g n (fun i => .string (A i)) (fun i => .string (A i)) (i + 1) (w6.setCell ⟨g, i, none⟩ (.string X))) := hM
        clear hM HST hb6 hcl HX c0
        go_wp2_with fail
        go_roundw
        case rel => exact ⟨i + 1, by go_num, by omega, HM⟩
        case measure => simp [intOf]; omega
      · obtain rfl : i = n := by omega
        have HE : Hid (MkR w1 g i (fun i => .string (A i)) (fun i => .string (A i)) i wr) := hI
        clear HI hI HA
        go_wp2_with fail
        go_ret
        have hE := (show MkR w1 g i (fun i => .string (A i)) (fun i => .string (A i)) i wr from HE)
        obtain ⟨hb, hg1, hg2⟩ := (show Below w.heap.size w w1 ∧ w.heap.size ≤ g ∧ g < w1.heap.size from HF)
        have hs := hE.kq.size
        refine ⟨_, g, rfl, ⟨⟨_, ca, rfl, fun _ => ⟨rfl, hca⟩⟩, fun j hj => hE.don j hj, fun _ j => hE.fz j⟩, fun _ => ⟨hg1, by omega⟩, ?_⟩
        exact ⟨hE.kq.os.trans hb.os, hE.kq.tape.trans hb.tape, hE.kq.output.trans hb.output, Nat.le_trans hb.size hE.kq.size, fun k hk => (hE.kq.block k (Nat.lt_of_lt_of_le hk hb.size) (by omega)).trans (hb.block k hk)⟩
end Go.Proofs.Ytgpbmmhfhjobkaa
