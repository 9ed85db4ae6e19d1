import Derived.Test.YtogenhnonjkanaaDoorRaa
namespace Go.Proofs.YtogenhnonjkanaaDoor.Rd
open Go.ChangeShapes Go.WideShapes Go.ChangeAt Go.RowKit Go.Proofs.YtogenhnonjkanaaDoor
set_option linter.unusedVariables false
set_option maxRecDepth 100000 in
set_option maxHeartbeats 8000000 in
theorem uint_10 (T : ByteArray) (L : List UInt8) (hT : T.data.toList = L) (hlen : L.length ≤ 1200) (hd : ∀ c ∈ L, dv c < 10) (hne : 0 < L.length) (w : World) :
    Calls Tryd.prog 96 #[.string T, .int .i64 10, .int .i64 64] w fun e w' => e = .returned (unt (rd 10 0 L)) ∧ w' = Lib.bytesWorld w 5 T := by
  have hsz : T.size = L.length := by rw [← hT]; simp
  have hemp := empT T (by omega)
  have hcv := Lib.run_convert_string_bytes (P := Tryd.prog) w 9 66 5 T (u := .string) Tryd.underlying9 Tryd.underlying66 Tryd.underlying5
  have hB : ∀ j c, L[j]? = some c → (Lib.bytesWorld w 5 T).cell? ⟨w.heap.size, j, none⟩ = some (.int .u8 (c.toNat : Int)) := fun j c hj => by
    have hlt : j < L.length := (List.getElem?_eq_some_iff.1 hj).1
    rw [Lib.bytesWorld_cell w 5 T j (by omega), hT, List.getD, hj]; rfl
  obtain ⟨W1, hW1⟩ : ∃ W1, W1 = Lib.bytesWorld w 5 T := ⟨_, rfl⟩
  rw [← hW1] at hcv hB ⊢
  clear hW1 hT
  have hmv : IntKind.u64.wrap (IntKind.u64.wrap 18446744073709551616 - 1) = 18446744073709551615 := by
    rw [IntKind.wrap_u64, IntKind.wrap_u64]
    decide
  go_enter Tryd.func96, Tryd.ntmps96
  go_wp2
  clear hcv hmv hemp
  go_loop [12, 13, 101] (fun vu vn vi => ∃ (k acc : Nat) (a : Int), vu = .bool false ∧ vn = .int .u64 a ∧ vi = .int .i64 k ∧ k ≤ L.length ∧ Hid (a = (acc : Int) ∧ acc < 18446744073709551616 ∧ rd 10 0 L = rd 10 acc (L.drop k)))
    (fun _ _ vi => L.length - (intOf vi).toNat)
  case atStart => exact ⟨0, 0, 0, rfl, rfl, rfl, by omega, (⟨rfl, by omega, rfl⟩ : (0 : Int) = ((0 : Nat) : Int) ∧ 0 < 18446744073709551616 ∧ rd 10 0 L = rd 10 0 (L.drop 0))⟩
  case round =>
    obtain ⟨k, acc, a, rfl, rfl, rfl, hk, hh⟩ := hrel
    obtain ⟨ha, hacc, hdec⟩ := (show a = (acc : Int) ∧ acc < 18446744073709551616 ∧ rd 10 0 L = rd 10 acc (L.drop k) from hh)
    clear hh
    have g0 : 0 ≤ a := by omega
    have g00 : a ≤ 18446744073709551615 := by omega
    by_cases hkn : k < L.length
    · have hdrop : L.drop k = L[k] :: L.drop (k + 1) := List.drop_eq_getElem_cons hkn
      have hc := hB k L[k] (List.getElem?_eq_getElem hkn)
      have hdl := hd L[k] (List.getElem_mem hkn)
      rw [hdrop] at hdec
      generalize L[k] = c at hc hdl hdec
      have hc256 : (c.toNat : Int) < 256 := by have := c.toNat_lt; omega
      clear hB hd hdrop
      obtain ⟨q, p, f1, f2, f3, f4, f5, f6⟩ := acc_facts 10 acc (dv c) (by omega) hdl
      rw [← ha] at f2
      have hkind : (48 ≤ (c.toNat : Int) ∧ (c.toNat : Int) ≤ 57 ∧ (dv c : Int) = (c.toNat : Int) - 48) ∨ (97 ≤ (c.toNat : Int) ∧ (c.toNat : Int) ≤ 122 ∧ (dv c : Int) = (c.toNat : Int) - 97 + 10 ∧ bits .or .u8 (c.toNat : Int) 32 = (c.toNat : Int)) := by
        unfold dv at hdl ⊢
        split at hdl
        · rename_i hh; rw [if_pos hh]; left; omega
        · rename_i hh
          rw [if_neg hh]
          split at hdl
          · rename_i hh2; rw [if_pos hh2]; right; exact ⟨by omega, by omega, by omega, low_at _ hh2.1 hh2.2⟩
          · omega
      have g3 : (dv c : Int) < 10 := by omega
      have g4 : (0 : Int) ≤ (dv c : Int) := by omega
      have fq : q = 1844674407370955161 := by rw [← f1]; decide
      have f2 : a * 10 = p := by simpa using f2
      by_cases hover : acc * 10 + dv c < 18446744073709551616
      · have hF : rd 10 acc (c :: L.drop (k + 1)) = rd 10 (acc * 10 + dv c) (L.drop (k + 1)) := by simp [rd, hover]
        have HN : Hid (p + (dv c : Int) = ((acc * 10 + dv c : Nat) : Int) ∧ acc * 10 + dv c < 18446744073709551616 ∧ rd 10 0 L = rd 10 (acc * 10 + dv c) (L.drop (k + 1))) :=
          (⟨by omega, hover, hdec.trans hF⟩ : p + (dv c : Int) = ((acc * 10 + dv c : Nat) : Int) ∧ acc * 10 + dv c < 18446744073709551616 ∧ rd 10 0 L = rd 10 (acc * 10 + dv c) (L.drop (k + 1)))
        have g1 : ¬ q < a := by rw [ha]; intro h; have := f5 h; omega
        have g2 : p + (dv c : Int) ≤ 18446744073709551615 := by omega
        have g5 : ¬ 1844674407370955162 ≤ a := by omega
        clear f3 f5 f6 hF hdec hacc hover ha hdl f1 fq
        rcases hkind with ⟨i1, i2, i3⟩ | ⟨i1, i2, i3, i4⟩
        · rw [i3] at g2 g3 g4 HN
          clear i3
          generalize (c.toNat : Int) = n at *
          go_wp2
          all_goals exact ⟨⟨k + 1, acc * 10 + dv c, p + (n - 48), rfl, (by first | rfl | (congr 1; omega)), (by first | rfl | (congr 1; omega)), by omega, HN⟩, by simp [intOf]; omega⟩
        · rw [i3] at g2 g3 g4 HN
          clear i3
          generalize (c.toNat : Int) = n at *
          go_wp2
          all_goals exact ⟨⟨k + 1, acc * 10 + dv c, p + (n - 97 + 10), rfl, (by first | rfl | (congr 1; omega)), (by first | rfl | (congr 1; omega)), by omega, HN⟩, by simp [intOf]; omega⟩
      · have hF : rd 10 acc (c :: L.drop (k + 1)) = none := by simp [rd, hover]
        have HE : Hid (rd 10 0 L = none) := (hdec.trans hF : rd 10 0 L = none)
        by_cases hqa : q < a
        · have g5 : 1844674407370955162 ≤ a := by omega
          clear f3 f5 f6 hF hdec hacc hover ha hdl f1 fq
          rcases hkind with ⟨i1, i2, i3⟩ | ⟨i1, i2, i3, i4⟩
          all_goals
            rw [i3] at g3 g4
            clear i3
            generalize (c.toNat : Int) = n at *
            go_wp2
            all_goals
              go_ret2
              refine ⟨?_, rfl⟩
              rw [show rd 10 0 L = none from HE]
              rfl
        · have g1 : p ≤ 18446744073709551615 := f6 (by omega)
          have g2 : 18446744073709551616 ≤ p + (dv c : Int) := by omega
          have g6 : ¬ 1844674407370955162 ≤ a := by omega
          have g5 : IntKind.u64.wrap (p + (dv c : Int)) = p + (dv c : Int) - 18446744073709551616 := by rw [IntKind.wrap_u64]; omega
          clear f3 f5 f6 hF hdec hacc hover ha hdl hqa f1 fq
          rcases hkind with ⟨i1, i2, i3⟩ | ⟨i1, i2, i3, i4⟩
          all_goals
            rw [i3] at g2 g3 g4 g5
            clear i3
            generalize (c.toNat : Int) = n at *
            go_wp2
            all_goals
              go_ret2
              refine ⟨?_, rfl⟩
              rw [show rd 10 0 L = none from HE]
              rfl
    · have hkk : k = L.length := by omega
      subst hkk
      have hF : rd 10 acc (L.drop L.length) = some acc := by rw [List.drop_eq_nil_of_le (by omega)]; rfl
      have HE : Hid (rd 10 0 L = some acc) := (hdec.trans hF : rd 10 0 L = some acc)
      subst ha
      clear hacc hF hdec hB hd
      go_wp2
      go_ret2
      refine ⟨?_, rfl⟩
      rw [show rd 10 0 L = some acc from HE]
      rfl
end Go.Proofs.YtogenhnonjkanaaDoor.Rd
