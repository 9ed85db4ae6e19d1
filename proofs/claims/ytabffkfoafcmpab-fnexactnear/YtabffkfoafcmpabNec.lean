import Derived.Test.YtabffkfoafcmpabNeb
import Derived.Test.YtabffkfoafcmpabFnf
namespace Go.Proofs.Ytabffkfoafcmpab
open Go.ChangeShapes Go.WideShapes Go.ChangeAt Go.RowKit
set_option linter.unusedVariables false
theorem scaledI (k e0 : Int) (hk0 : 0 ≤ k) (hk : k < 9007199254740992) (h0 : -1074 ≤ e0) (h1 : e0 ≤ 971) (w : World) :
    Calls Try.prog 22 #[.int .u64 k, .int .i64 e0] w fun e w' => e = .returned (.float .f64 (Flt.F k.toNat (e0 + 1074).toNat)) ∧ w' = w := by
  obtain ⟨m, rfl⟩ := Int.eq_ofNat_of_zero_le hk0
  rw [Int.toNat_natCast]
  exact scaled m e0 (by omega) h0 h1 w
set_option maxRecDepth 100000 in
set_option maxHeartbeats 8000000 in
theorem spec_near_num (m : Nat) (e : Int) (hm0 : m ≠ 0) (hm : m < 18446744073709551616) (h1 : -2000 ≤ e) (h2 : e ≤ 2000) (w : World) :
    Calls Try.prog 25 #[.int .u64 m, .int .i64 e, .bool false] w fun e' w' => e' = .returned (.float .f64 (Flt.nearW m e)) ∧ w' = w := by
  have hz : ((m : Int) == 0) = false := by simp; omega
  have hmi : (m : Int) ≤ 18446744073709551615 := by omega
  have HS : Hid (∀ (z : Nat) (M : Int), M = ((m * 2 ^ z : Nat) : Int) → M < 9223372036854775808 → z < 63 ∧ M * 2 = ((m * 2 ^ (z + 1) : Nat) : Int)) := by
    intro z M hM hlt
    refine ⟨?_, by rw [hM, Nat.pow_succ, ← Nat.mul_assoc]; omega⟩
    refine Nat.lt_of_not_le fun g => ?_
    have g1 : 2 ^ 63 ≤ 2 ^ z := Nat.pow_le_pow_right (by omega) (by omega)
    have g2 : 1 * 2 ^ z ≤ m * 2 ^ z := Nat.mul_le_mul_right _ (by omega)
    omega
  have HNS : Hid (∀ (z : Nat), Flt.nearW (m * 2 ^ z) (e - z) = Flt.nearW m e) := fun z => (Flt.near_scale m e z hm0).2.2
  generalize Flt.nearW m e = N at *
  clear hm
  go_enter Try.func25, Try.ntmps25
  go_wp2
  go_loop [0, 1] (fun a b => ∃ (M E : Int), Hid (∃ z : Nat, M = ((m * 2 ^ z : Nat) : Int) ∧ E = e - z) ∧ 0 < M ∧ M ≤ 18446744073709551615 ∧ -2064 ≤ E ∧ E ≤ 2000 ∧ a = .int .u64 M ∧ b = .int .i64 E) (fun a _ => (18446744073709551616 - intOf a).toNat)
  case atStart => exact ⟨m, e, ⟨0, by simp, by simp⟩, by omega, hmi, by omega, by omega, rfl, rfl⟩
  case round =>
    obtain ⟨M, E, HZ, hM0, hM, hE1, hE2, rfl, rfl⟩ := hrel
    by_cases hlt : M < 9223372036854775808
    · have HR : Hid (∃ z : Nat, M * 2 = ((m * 2 ^ z : Nat) : Int) ∧ E - 1 = e - z) := by
        obtain ⟨z, hz1, hz2⟩ := (show ∃ z : Nat, M = ((m * 2 ^ z : Nat) : Int) ∧ E = e - z from HZ)
        exact ⟨z + 1, ((show ∀ (z : Nat) (M : Int), M = ((m * 2 ^ z : Nat) : Int) → M < 9223372036854775808 → z < 63 ∧ M * 2 = ((m * 2 ^ (z + 1) : Nat) : Int) from HS) z M hz1 hlt).2, by omega⟩
      have hE3 : -2063 ≤ E := by
        obtain ⟨z, hz1, hz2⟩ := (show ∃ z : Nat, M = ((m * 2 ^ z : Nat) : Int) ∧ E = e - z from HZ)
        have := ((show ∀ (z : Nat) (M : Int), M = ((m * 2 ^ z : Nat) : Int) → M < 9223372036854775808 → z < 63 ∧ M * 2 = ((m * 2 ^ (z + 1) : Nat) : Int) from HS) z M hz1 hlt).1
        omega
      go_wp2
      go_round
      case rel => exact ⟨M * 2, E - 1, HR, by omega, by omega, by omega, by omega, by go_num, rfl⟩
      case measure => simp [intOf]; omega
    · obtain ⟨Mn, hMn3⟩ : ∃ Mn : Nat, (Mn : Int) = M := ⟨M.toNat, by omega⟩
      have hN : N = Flt.nearW Mn E := by
        obtain ⟨z, hz1, hz2⟩ := (show ∃ z : Nat, M = ((m * 2 ^ z : Nat) : Int) ∧ E = e - z from HZ)
        have e1 : Mn = m * 2 ^ z := by omega
        rw [e1, hz2]
        exact ((show ∀ (z : Nat), Flt.nearW (m * 2 ^ z) (e - z) = N from HNS) z).symm
      have hMn1 : 9223372036854775808 ≤ Mn := by omega
      have hMn2 : Mn < 18446744073709551616 := by omega
      clear HZ HNS HS
      by_cases c1 : 1024 < E
      · have HN : Hid (N = 9218868437227405312) := by show N = _; rw [hN]; exact Flt.fin_high hMn1 hMn2 (by omega)
        clear hN hMn1 hMn2 hMn3
        go_wp2_with (go_at_call 21; refine (inf_run _).mono ?_; rintro e w' ⟨rfl, rfl⟩)
        go_ret
        refine ⟨?_, rfl⟩
        rw [show N = _ from HN]
        rfl
      by_cases c2 : E < -1200
      · have HN : Hid (N = 0) := by show N = _; rw [hN]; exact Flt.fin_zero hMn1 hMn2 (by omega)
        clear hN hMn1 hMn2 hMn3
        go_wp2
        go_ret
        refine ⟨?_, rfl⟩
        rw [show N = _ from HN]
        rfl
      by_cases c3 : E < -1138
      · have HN : Hid (N = 0) := by show N = _; rw [hN]; exact Flt.fin_zero hMn1 hMn2 (by omega)
        clear hN hMn1 hMn2 hMn3
        go_wp2
        go_ret
        refine ⟨?_, rfl⟩
        rw [show N = _ from HN]
        rfl
      by_cases c4 : E + 11 < -1074
      · have hlast : Flt.lastP Mn E = -1074 := by rw [Flt.norm_last hMn1 hMn2]; omega
        have hkept := Flt.norm_kept hlast (by omega)
        obtain ⟨d, hd⟩ : ∃ d : Nat, (d : Int) = -1074 - E := ⟨(-1074 - E).toNat, by omega⟩
        have hdn : (-1074 - E).toNat = d := by omega
        rw [hdn] at hkept
        obtain ⟨L, R, H, pL, pR, pH, pM, pK, p64⟩ := Flt.cut_parts Mn d hMn2 (by omega) (by omega)
        rw [hMn3] at pL pR
        have hL : L ≤ 4503599627370496 := by
          have g1 : 2 ^ 12 ≤ 2 ^ d := Nat.pow_le_pow_right (by omega) (by omega)
          have g2 : L * 2 ^ 12 ≤ L * 2 ^ d := Nat.mul_le_mul_left _ g1
          omega
        have hcn : True := trivial
        obtain rfl : E = -1074 - (d : Int) := by omega
        have hdd : -1074 - (-1074 - (d : Int)) = (d : Int) := by omega
        by_cases h64 : d < 64
        · clear p64 pM hd hdn
          rcases Nat.lt_trichotomy H R with hu | hu | hu
          · have q1 : (H : Int) < R := by omega
            have hK : Flt.keptP Mn (-1074 - (d : Int)) = L + 1 := by
              have : decide (H < R ∨ H = R ∧ L % 2 = 1) = true := by simp; omega
              rw [hkept, pK, this]; rfl
            have HN : Hid (N = Flt.F (((L : Int) + 1)).toNat (-1074 + 1074 : Int).toNat) := by
              show N = _
              rw [hN, (Flt.fin_plain hMn1 hMn2 hlast (by omega)).2 (by omega), hK]
              congr 1
            have q5 : (((L : Int) + 1) == 9007199254740992) = false := by simp; omega
            clear hkept pK hK hlast hcn hN hMn1 hMn2 hMn3
            go_wp2_with (go_at_call 22; refine (scaledI _ _ (by omega) (by omega) (by omega) (by omega) _).mono ?_; rintro e w' ⟨rfl, rfl⟩)
            go_ret
            refine ⟨?_, rfl⟩
            rw [show N = _ from HN]
            rfl
          · have q1 : ¬ (H : Int) < R := by omega
            have q2 : ((R : Int) == (H : Int)) = true := by simp; omega
            by_cases hodd : L % 2 = 1
            · have q3 : ((L : Int) % 2 == 1) = true := by simp; omega
              have hK : Flt.keptP Mn (-1074 - (d : Int)) = L + 1 := by
                have : decide (H < R ∨ H = R ∧ L % 2 = 1) = true := by simp; omega
                rw [hkept, pK, this]; rfl
              have HN : Hid (N = Flt.F (((L : Int) + 1)).toNat (-1074 + 1074 : Int).toNat) := by
                show N = _
                rw [hN, (Flt.fin_plain hMn1 hMn2 hlast (by omega)).2 (by omega), hK]
                congr 1
              have q5 : (((L : Int) + 1) == 9007199254740992) = false := by simp; omega
              clear hkept pK hK hlast hcn hN hMn1 hMn2 hMn3
              go_wp2_with (go_at_call 22; refine (scaledI _ _ (by omega) (by omega) (by omega) (by omega) _).mono ?_; rintro e w' ⟨rfl, rfl⟩)
              go_ret
              refine ⟨?_, rfl⟩
              rw [show N = _ from HN]
              rfl
            · have q3 : ((L : Int) % 2 == 1) = false := by simp; omega
              have hK : Flt.keptP Mn (-1074 - (d : Int)) = L := by
                have : decide (H < R ∨ H = R ∧ L % 2 = 1) = false := by simp; omega
                rw [hkept, pK, this]; rfl
              have HN : Hid (N = Flt.F ((L : Int)).toNat (-1074 + 1074 : Int).toNat) := by
                show N = _
                rw [hN, (Flt.fin_plain hMn1 hMn2 hlast (by omega)).2 (by omega), hK]
                congr 1
              have q5 : ((L : Int) == 9007199254740992) = false := by simp; omega
              clear hkept pK hK hlast hcn hN hMn1 hMn2 hMn3
              go_wp2_with (go_at_call 22; refine (scaledI _ _ (by omega) (by omega) (by omega) (by omega) _).mono ?_; rintro e w' ⟨rfl, rfl⟩)
              go_ret
              refine ⟨?_, rfl⟩
              rw [show N = _ from HN]
              rfl
          · have q1 : ¬ (H : Int) < R := by omega
            have q2 : ((R : Int) == (H : Int)) = false := by simp; omega
            have hK : Flt.keptP Mn (-1074 - (d : Int)) = L := by
              have : decide (H < R ∨ H = R ∧ L % 2 = 1) = false := by simp; omega
              rw [hkept, pK, this]; rfl
            have HN : Hid (N = Flt.F ((L : Int)).toNat (-1074 + 1074 : Int).toNat) := by
              show N = _
              rw [hN, (Flt.fin_plain hMn1 hMn2 hlast (by omega)).2 (by omega), hK]
              congr 1
            have q5 : ((L : Int) == 9007199254740992) = false := by simp; omega
            clear hkept pK hK hlast hcn hN hMn1 hMn2 hMn3
            go_wp2_with (go_at_call 22; refine (scaledI _ _ (by omega) (by omega) (by omega) (by omega) _).mono ?_; rintro e w' ⟨rfl, rfl⟩)
            go_ret
            refine ⟨?_, rfl⟩
            rw [show N = _ from HN]
            rfl
        · obtain rfl : d = 64 := by omega
          obtain ⟨g1, g2, g3⟩ := p64 rfl
          subst g1 g3
          have eK : Flt.keptP Mn (-1074 - ((64 : Nat) : Int)) = (decide (9223372036854775808 < Mn)).toNat := by
            rw [hkept, pK, g2]; simp
          have hE : (-1074 - ((64 : Nat) : Int)) = -1138 := by decide
          rw [hE] at hlast eK hN ⊢
          have fp := (Flt.fin_plain hMn1 hMn2 hlast (by
            rw [eK]
            have := Bool.toNat_le (decide (9223372036854775808 < Mn))
            omega)).2 (by omega)
          rw [eK] at fp
          clear pL pR pH pM pK p64 hL hdd hd hdn hkept hlast g2
          by_cases hbig : 9223372036854775808 < M
          · have HN : Hid (N = Flt.F (1 : Int).toNat (-1074 + 1074 : Int).toNat) := by
              show N = _
              have : decide (9223372036854775808 < Mn) = true := by simp; omega
              rw [hN, fp, this]; rfl
            clear hN fp eK hMn1 hMn2 hMn3
            go_wp2_with (go_at_call 22; refine (scaledI _ _ (by omega) (by omega) (by omega) (by omega) _).mono ?_; rintro e w' ⟨rfl, rfl⟩)
            go_ret
            refine ⟨?_, rfl⟩
            rw [show N = _ from HN]
            rfl
          · have HN : Hid (N = Flt.F (0 : Int).toNat (-1074 + 1074 : Int).toNat) := by
              show N = _
              have : decide (9223372036854775808 < Mn) = false := by simp; omega
              rw [hN, fp, this]; rfl
            have q2 : (M == 9223372036854775808) = true := by simp; omega
            clear hN fp eK hMn1 hMn2 hMn3
            go_wp2_with (go_at_call 22; refine (scaledI _ _ (by omega) (by omega) (by omega) (by omega) _).mono ?_; rintro e w' ⟨rfl, rfl⟩)
            go_ret
            refine ⟨?_, rfl⟩
            rw [show N = _ from HN]
            rfl
      · have hlast : Flt.lastP Mn E = E + 11 := by rw [Flt.norm_last hMn1 hMn2]; omega
        have hkept := Flt.norm_kept hlast (by omega)
        have hdn : (E + 11 - E).toNat = 11 := by omega
        rw [hdn] at hkept
        obtain ⟨L, R, H, pL, pR, pH, pM, pK, p64⟩ := Flt.cut_parts Mn 11 hMn2 (by omega) (by omega)
        rw [hMn3] at pL pR
        have x1 : (2 : Int) ^ 11 = 2048 := by decide
        have x2 : (2 : Int) ^ (11 - 1) = 1024 := by decide
        have x3 : (2 : Nat) ^ 11 = 2048 := by decide
        rw [x1] at pL pR
        rw [x2, IntKind.wrap_u64] at pH
        rw [x3] at pM
        have hL : L ≤ 9007199254740991 := by omega
        have hLM : (L : Int) * 2048 ≤ M := by omega
        have pR2 : M - (L : Int) * 2048 = (R : Int) := by
          rw [IntKind.wrap_u64, IntKind.wrap_u64] at pR; omega
        obtain rfl : H = 1024 := by omega
        have hcn : True := trivial
        have hdd : E + 11 - E = 11 := by omega
        clear p64 pM hdn pR pH x1 x2 x3
        rcases Nat.lt_trichotomy 1024 R with hu | hu | hu
        · have q1 : (1024 : Int) < R := by omega
          have hK : Flt.keptP Mn E = L + 1 := by
            have : decide (1024 < R ∨ 1024 = R ∧ L % 2 = 1) = true := by simp; omega
            rw [hkept, pK, this]; rfl
          by_cases hcar : L + 1 = 9007199254740992
          · have q5 : (((L : Int) + 1) == 9007199254740992) = true := by simp; omega
            have fc := Flt.fin_carry hlast (by rw [hK]; exact hcar)
            by_cases hhi : 971 < E + 11 + 1
            · have HN : Hid (N = 9218868437227405312) := by show N = _; rw [hN]; exact fc.1 hhi
              clear hkept pK hK hlast hcn hN hMn1 hMn2 hMn3 fc hcar
              go_wp2_with (go_at_call 21; refine (inf_run _).mono ?_; rintro e w' ⟨rfl, rfl⟩)
              go_ret
              refine ⟨?_, rfl⟩
              rw [show N = _ from HN]
              rfl
            · have HN : Hid (N = Flt.F (4503599627370496 : Int).toNat (E + 11 + 1 + 1074).toNat) := by show N = _; rw [hN]; exact fc.2 (by omega)
              clear hkept pK hK hlast hcn hN hMn1 hMn2 hMn3 fc hcar
              go_wp2_with (go_at_call 22; refine (scaledI _ _ (by omega) (by omega) (by omega) (by omega) _).mono ?_; rintro e w' ⟨rfl, rfl⟩)
              go_ret
              refine ⟨?_, rfl⟩
              rw [show N = _ from HN]
              rfl
          · have q5 : (((L : Int) + 1) == 9007199254740992) = false := by simp; omega
            have fp := Flt.fin_plain hMn1 hMn2 hlast (by omega)
            have hk9 : ((L : Int) + 1) < 9007199254740992 := by omega
            by_cases hhi : 971 < E + 11
            · have HN : Hid (N = 9218868437227405312) := by show N = _; rw [hN]; exact fp.1 hhi
              clear hkept pK hK hlast hcn hN hMn1 hMn2 hMn3 fp hcar
              go_wp2_with (go_at_call 21; refine (inf_run _).mono ?_; rintro e w' ⟨rfl, rfl⟩)
              go_ret
              refine ⟨?_, rfl⟩
              rw [show N = _ from HN]
              rfl
            · have HN : Hid (N = Flt.F (((L : Int) + 1)).toNat (E + 11 + 1074).toNat) := by
                show N = _
                rw [hN, fp.2 (by omega), hK]
                congr 1
              clear hkept pK hK hlast hcn hN hMn1 hMn2 hMn3 fp hcar
              go_wp2_with (go_at_call 22; refine (scaledI _ _ (by omega) (by omega) (by omega) (by omega) _).mono ?_; rintro e w' ⟨rfl, rfl⟩)
              go_ret
              refine ⟨?_, rfl⟩
              rw [show N = _ from HN]
              rfl
        · have q1 : ¬ (1024 : Int) < R := by omega
          have q2 : ((R : Int) == (1024 : Int)) = true := by simp; omega
          by_cases hodd : L % 2 = 1
          · have q3 : ((L : Int) % 2 == 1) = true := by simp; omega
            have hK : Flt.keptP Mn E = L + 1 := by
              have : decide (1024 < R ∨ 1024 = R ∧ L % 2 = 1) = true := by simp; omega
              rw [hkept, pK, this]; rfl
            by_cases hcar : L + 1 = 9007199254740992
            · have q5 : (((L : Int) + 1) == 9007199254740992) = true := by simp; omega
              have fc := Flt.fin_carry hlast (by rw [hK]; exact hcar)
              by_cases hhi : 971 < E + 11 + 1
              · have HN : Hid (N = 9218868437227405312) := by show N = _; rw [hN]; exact fc.1 hhi
                clear hkept pK hK hlast hcn hN hMn1 hMn2 hMn3 fc hcar
                go_wp2_with (go_at_call 21; refine (inf_run _).mono ?_; rintro e w' ⟨rfl, rfl⟩)
                go_ret
                refine ⟨?_, rfl⟩
                rw [show N = _ from HN]
                rfl
              · have HN : Hid (N = Flt.F (4503599627370496 : Int).toNat (E + 11 + 1 + 1074).toNat) := by show N = _; rw [hN]; exact fc.2 (by omega)
                clear hkept pK hK hlast hcn hN hMn1 hMn2 hMn3 fc hcar
                go_wp2_with (go_at_call 22; refine (scaledI _ _ (by omega) (by omega) (by omega) (by omega) _).mono ?_; rintro e w' ⟨rfl, rfl⟩)
                go_ret
                refine ⟨?_, rfl⟩
                rw [show N = _ from HN]
                rfl
            · have q5 : (((L : Int) + 1) == 9007199254740992) = false := by simp; omega
              have fp := Flt.fin_plain hMn1 hMn2 hlast (by omega)
              have hk9 : ((L : Int) + 1) < 9007199254740992 := by omega
              by_cases hhi : 971 < E + 11
              · have HN : Hid (N = 9218868437227405312) := by show N = _; rw [hN]; exact fp.1 hhi
                clear hkept pK hK hlast hcn hN hMn1 hMn2 hMn3 fp hcar
                go_wp2_with (go_at_call 21; refine (inf_run _).mono ?_; rintro e w' ⟨rfl, rfl⟩)
                go_ret
                refine ⟨?_, rfl⟩
                rw [show N = _ from HN]
                rfl
              · have HN : Hid (N = Flt.F (((L : Int) + 1)).toNat (E + 11 + 1074).toNat) := by
                  show N = _
                  rw [hN, fp.2 (by omega), hK]
                  congr 1
                clear hkept pK hK hlast hcn hN hMn1 hMn2 hMn3 fp hcar
                go_wp2_with (go_at_call 22; refine (scaledI _ _ (by omega) (by omega) (by omega) (by omega) _).mono ?_; rintro e w' ⟨rfl, rfl⟩)
                go_ret
                refine ⟨?_, rfl⟩
                rw [show N = _ from HN]
                rfl
          · have q3 : ((L : Int) % 2 == 1) = false := by simp; omega
            have hK : Flt.keptP Mn E = L := by
              have : decide (1024 < R ∨ 1024 = R ∧ L % 2 = 1) = false := by simp; omega
              rw [hkept, pK, this]; rfl
            have hcar : L ≠ 9007199254740992 := by omega
            have q5 : ((L : Int) == 9007199254740992) = false := by simp; omega
            have fp := Flt.fin_plain hMn1 hMn2 hlast (by omega)
            have hk9 : (L : Int) < 9007199254740992 := by omega
            by_cases hhi : 971 < E + 11
            · have HN : Hid (N = 9218868437227405312) := by show N = _; rw [hN]; exact fp.1 hhi
              clear hkept pK hK hlast hcn hN hMn1 hMn2 hMn3 fp hcar
              go_wp2_with (go_at_call 21; refine (inf_run _).mono ?_; rintro e w' ⟨rfl, rfl⟩)
              go_ret
              refine ⟨?_, rfl⟩
              rw [show N = _ from HN]
              rfl
            · have HN : Hid (N = Flt.F ((L : Int)).toNat (E + 11 + 1074).toNat) := by
                show N = _
                rw [hN, fp.2 (by omega), hK]
                congr 1
              clear hkept pK hK hlast hcn hN hMn1 hMn2 hMn3 fp hcar
              go_wp2_with (go_at_call 22; refine (scaledI _ _ (by omega) (by omega) (by omega) (by omega) _).mono ?_; rintro e w' ⟨rfl, rfl⟩)
              go_ret
              refine ⟨?_, rfl⟩
              rw [show N = _ from HN]
              rfl
        · have q1 : ¬ (1024 : Int) < R := by omega
          have q2 : ((R : Int) == (1024 : Int)) = false := by simp; omega
          have hK : Flt.keptP Mn E = L := by
            have : decide (1024 < R ∨ 1024 = R ∧ L % 2 = 1) = false := by simp; omega
            rw [hkept, pK, this]; rfl
          have hcar : L ≠ 9007199254740992 := by omega
          have q5 : ((L : Int) == 9007199254740992) = false := by simp; omega
          have fp := Flt.fin_plain hMn1 hMn2 hlast (by omega)
          have hk9 : (L : Int) < 9007199254740992 := by omega
          by_cases hhi : 971 < E + 11
          · have HN : Hid (N = 9218868437227405312) := by show N = _; rw [hN]; exact fp.1 hhi
            clear hkept pK hK hlast hcn hN hMn1 hMn2 hMn3 fp hcar
            go_wp2_with (go_at_call 21; refine (inf_run _).mono ?_; rintro e w' ⟨rfl, rfl⟩)
            go_ret
            refine ⟨?_, rfl⟩
            rw [show N = _ from HN]
            rfl
          · have HN : Hid (N = Flt.F ((L : Int)).toNat (E + 11 + 1074).toNat) := by
              show N = _
              rw [hN, fp.2 (by omega), hK]
              congr 1
            clear hkept pK hK hlast hcn hN hMn1 hMn2 hMn3 fp hcar
            go_wp2_with (go_at_call 22; refine (scaledI _ _ (by omega) (by omega) (by omega) (by omega) _).mono ?_; rintro e w' ⟨rfl, rfl⟩)
            go_ret
            refine ⟨?_, rfl⟩
            rw [show N = _ from HN]
            rfl
end Go.Proofs.Ytabffkfoafcmpab
