import Derived.Test.YtogenhnonjkanaaDoorRag
namespace Go.Proofs.YtogenhnonjkanaaDoor
open Go.ChangeShapes Go.WideShapes Go.ChangeAt Go.RowKit
set_option linter.unusedVariables false
/-- a digit of a base -/
def dgb (b : Nat) (c : UInt8) : Bool := decide (Rd.dw c < b)
theorem dgb_ten (c : UInt8) : dgb 10 c = isD c := by
  rw [Bool.eq_iff_iff]
  unfold dgb Rd.dw isD
  rw [decide_eq_true_iff, Bool.and_eq_true, decide_eq_true_iff, decide_eq_true_iff]
  constructor
  · intro h
    split at h
    · rename_i g; exact g
    · split at h <;> omega
  · rintro ⟨h1, h2⟩
    rw [if_pos ⟨h1, h2⟩]
    omega
theorem en_congr {p q : UInt8 → Bool} (h : ∀ c, p c = q c) (L : List UInt8) (k : Nat) : en p L k = en q L k := by
  have : p = q := funext h
  rw [this]
set_option maxRecDepth 100000 in
set_option maxHeartbeats 2000000 in
theorem impl_digits {B : Nat} {T : ByteArray} (L : List UInt8) (hT : T.data.toList = L) {k : Nat} {l : Int} {st : Bool} (b : Nat) (hb : b ≤ 36) (hlen : T.size ≤ 65536) (hk : k ≤ L.length) (w : World) (h : Sb B T k l st w) :
    Calls Tryd.prog 77 #[.pointer (some ⟨B, 0, none⟩), .int .i64 (b : Int)] w fun e w' => e = .returned (.string (T.extract k (en (dgb b) L k))) ∧ Mv B T (en (dgb b) L k : Nat) l st w w' := by
  have hs : T.size = L.length := by rw [← hT]; simp
  have HX : IxAll T L := fun j c hj => ix T L hT j c hj
  have HID : Hid (∀ (c : UInt8) (w : World), Calls Tryd.prog 91 #[.int .u8 (c.toNat : Int)] w fun e w' => e = .returned (.int .i64 (Rd.dw c : Int)) ∧ w' = w) := Rd.impl_dig
  obtain ⟨M, hM, hLM⟩ : ∃ M : Int, M ≤ 65536 ∧ (L.length : Int) ≤ M := ⟨L.length, by omega, Int.le_refl _⟩
  have c1 := h.c1
  have HS : Hid (Mv B T k l st w w) := Mv.refl h
  have hbI : (b : Int) ≤ 36 := by omega
  clear hT hlen h
  go_enter Tryd.func77, Tryd.ntmps77
  go_wp2_with fail
  clear c1
  go_loopw [] (fun wr => ∃ j : Nat, k ≤ j ∧ j ≤ L.length ∧ Hid (Mv B T j l st w wr ∧ en (dgb b) L k = en (dgb b) L j)) (fun wr => L.length - atOf B wr)
  case atStart => exact ⟨k, Nat.le_refl _, hk, (⟨HS, rfl⟩ : Mv B T k l st w w ∧ en (dgb b) L k = en (dgb b) L k)⟩
  case round =>
    clear HS
    obtain ⟨j, hkj, hj, HR⟩ := hrel
    obtain ⟨hK, hE⟩ := (show Mv B T j l st w wr ∧ en (dgb b) L k = en (dgb b) L j from HR)
    clear HR
    have hat := atOf_sb hK.2
    have hjM : (j : Int) ≤ M := by omega
    have b0 := hK.2.c0
    have b1 := hK.2.c1
    have f1 := hK.2.fz 1
    have hsl : ∀ W : World, (Instr.slice 9 (.string T) (some (.int .i64 (k : Int))) (some (.int .i64 (j : Int))) none).run Tryd.prog W = .ok (.string (T.extract k j)) W := by
      intro W
      rw [run_slice_string (P := Tryd.prog) W 9 T .i64 .i64 (k : Int) (j : Int) Tryd.underlying9 (by omega) (by omega) (by omega)]
      simp
    rcases Nat.lt_or_ge j L.length with hjn | hjn
    · have hx := List.getElem?_eq_getElem hjn
      have hix := HX j _ hx
      generalize L[j] = x at hx hix
      have he := ended_in B T j l st false (by simp; omega) wr hK.2
      have hdig := (show ∀ (c : UInt8) (w : World), _ from HID) x
      by_cases hgo : dgb b x = true
      · have hd2 : (Rd.dw x : Int) < (b : Int) := by unfold dgb at hgo; simp at hgo; omega
        have HN : Hid (∀ q, Mv B T ((j + 1 : Nat) : Int) l st w ((wr.drewN q).setCell ⟨B, 1, none⟩ (.int .i64 ((j : Int) + 1))) ∧ en (dgb b) L k = en (dgb b) L (j + 1)) :=
          (fun q => ⟨⟨(hK.1.drewN q).setCell 1 _, (hK.2.drewN q).set1 _⟩, hE.trans (en_step hx hgo)⟩ : ∀ q, Mv B T ((j + 1 : Nat) : Int) l st w ((wr.drewN q).setCell ⟨B, 1, none⟩ (.int .i64 ((j : Int) + 1))) ∧ en (dgb b) L k = en (dgb b) L (j + 1))
        clear hK hE HID HX hx hgo hsl
        generalize (Rd.dw x : Int) = dd at *
        generalize (x.toNat : Int) = xi at *
        go_wp2_with fail
        go_quiet ((first | (go_at_call 40; exact he _) | (go_at_call 91; exact Calls.quiet_of_same (hdig _))))
        go_wp2_with fail
        have hN := (show ∀ q, _ from HN) nq
        refine ⟨⟨j + 1, by omega, by omega, hN⟩, ?_⟩
        rw [atOf_sb hN.1.2, hat]
        omega
      · have hd2 : ¬ (Rd.dw x : Int) < (b : Int) := by unfold dgb at hgo; simp at hgo; omega
        have e : en (dgb b) L k = j := hE.trans (en_stop hx (by simpa using hgo))
        have HE : Hid (en (dgb b) L k = j) := e
        have HKA : Hid (∀ q, Mv B T j l st w (wr.drewN q)) := (fun q => ⟨hK.1.drewN q, hK.2⟩ : ∀ q, Mv B T j l st w (wr.drewN q))
        clear hK hE HID HX hx hgo e
        generalize (Rd.dw x : Int) = dd at *
        generalize (x.toNat : Int) = xi at *
        go_wp2_with fail
        go_quiet ((first | (go_at_call 40; exact he _) | (go_at_call 91; exact Calls.quiet_of_same (hdig _))))
        go_wp2_with fail
        clear he hdig hix
        obtain ⟨W, hWe, hKW⟩ : ∃ W, W = wr.drewN nq ∧ Mv B T j l st w W := ⟨_, rfl, (show ∀ q, _ from HKA) nq⟩
        rw [← hWe]
        clear b0 b1 f1 hat hWe HKA
        have b0 := hKW.2.c0
        have b1 := hKW.2.c1
        have HKW : Hid (Mv B T j l st w W) := hKW
        clear hKW
        go_quiet (fail)
        go_wp2_with fail
        go_ret
        have hEE := (show en (dgb b) L k = j from HE)
        rw [hEE]
        exact ⟨rfl, (show Mv B T j l st w W from HKW).1.drewN _, (show Mv B T j l st w W from HKW).2⟩
    · have he := ended_in B T j l st true (by simp; omega) wr hK.2
      have e : en (dgb b) L k = j := hE.trans (en_end hjn)
      have HE : Hid (en (dgb b) L k = j) := e
      have HKA : Hid (∀ q, Mv B T j l st w (wr.drewN q)) := (fun q => ⟨hK.1.drewN q, hK.2⟩ : ∀ q, Mv B T j l st w (wr.drewN q))
      clear hK hE HID HX e
      go_wp2_with fail
      go_quiet ((first | (go_at_call 40; exact he _)))
      go_wp2_with fail
      clear he
      obtain ⟨W, hWe, hKW⟩ : ∃ W, W = wr.drewN nq ∧ Mv B T j l st w W := ⟨_, rfl, (show ∀ q, _ from HKA) nq⟩
      rw [← hWe]
      clear b0 b1 f1 hat hWe HKA
      have b0 := hKW.2.c0
      have b1 := hKW.2.c1
      have HKW : Hid (Mv B T j l st w W) := hKW
      clear hKW
      go_quiet (fail)
      go_wp2_with fail
      go_ret
      have hEE := (show en (dgb b) L k = j from HE)
      rw [hEE]
      exact ⟨rfl, (show Mv B T j l st w W from HKW).1.drewN _, (show Mv B T j l st w W from HKW).2⟩
end Go.Proofs.YtogenhnonjkanaaDoor
