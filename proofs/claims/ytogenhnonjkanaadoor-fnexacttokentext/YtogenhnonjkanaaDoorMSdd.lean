import Derived.Test.YtogenhnonjkanaaDoorMSbh
import Derived.Test.YtogenhnonjkanaaDoorMSdb
import Derived.Deep.Light
namespace Go.Proofs.YtogenhnonjkanaaDoor
open Go.ChangeShapes Go.WideShapes Go.ChangeAt Go.RowKit
set_option linter.unusedVariables false
/-- a hexadecimal digit's worth, or -1 -/
def hv (c : UInt8) : Int := if dgb 16 c = true then (Rd.dv c : Int) else -1
theorem hv_yes {c : UInt8} (h : dgb 16 c = true) : hv c = (Rd.dv c : Int) ∧ Rd.dv c < 16 := by
  refine ⟨by unfold hv; rw [if_pos h], ?_⟩
  rw [Rd.dv_dw _ _ (by decide)]
  unfold dgb at h
  simpa using h
theorem hv_no {c : UInt8} (h : dgb 16 c = false) : hv c = -1 := by unfold hv; rw [h]; rfl
theorem dgb_zero : dgb 16 0 = false := by decide
theorem spec_hexb (c : UInt8) (w : World) : Calls Tryd.prog 55 #[.int .u8 (c.toNat : Int)] w fun e w' => e = .returned (.int .i64 (hv c)) ∧ w' = w := by
  have hc := c.toNat_lt
  have hD := spec_isD c
  have hr : (48 ≤ c.toNat ∧ c.toNat ≤ 57) ∨ (97 ≤ c.toNat ∧ c.toNat ≤ 102) ∨ (¬ (48 ≤ c.toNat ∧ c.toNat ≤ 57) ∧ ¬ (97 ≤ c.toNat ∧ c.toNat ≤ 102)) := by omega
  rcases hr with h | h | h
  · have e : isD c = true := by unfold isD; simp; omega
    have e2 : hv c = (c.toNat : Int) - 48 := by unfold hv dgb Rd.dw Rd.dv; rw [if_pos h, if_pos h, if_pos (by simp; omega)]; omega
    rw [e] at hD
    rw [e2]
    obtain ⟨h1, h2⟩ := h
    generalize (c.toNat) = x at *
    clear e e2
    go_enter Tryd.func55, Tryd.ntmps55
    go_wp2_with fail
    refine (hD _).mono ?_
    rintro e w1 ⟨rfl, rfl⟩
    go_wp2_with fail
    refine bodyPost_ret (by simp [results, Tryd.results55, go_sem]; rfl) rfl ?_
    exact ⟨rfl, rfl⟩
  · have e : isD c = false := by unfold isD; simp; omega
    have hn : ¬ (48 ≤ c.toNat ∧ c.toNat ≤ 57) := by omega
    have e2 : hv c = (c.toNat : Int) - 97 + 10 := by unfold hv dgb Rd.dw Rd.dv; rw [if_neg hn, if_neg hn, if_pos (show 97 ≤ c.toNat ∧ c.toNat ≤ 122 by omega), if_pos (show 97 ≤ c.toNat ∧ c.toNat ≤ 122 by omega), if_pos (by simp; omega)]; omega
    rw [e] at hD
    rw [e2]
    obtain ⟨h1, h2⟩ := h
    generalize (c.toNat) = x at *
    clear e e2 hn
    go_enter Tryd.func55, Tryd.ntmps55
    go_wp2_with fail
    refine (hD _).mono ?_
    rintro e w1 ⟨rfl, rfl⟩
    go_wp2_with fail
    refine bodyPost_ret (by simp [results, Tryd.results55, go_sem]; rfl) rfl ?_
    exact ⟨rfl, rfl⟩
  · have e : isD c = false := by unfold isD; simp; omega
    have e2 : hv c = -1 := by
      unfold hv dgb Rd.dw
      rw [if_neg h.1]
      split
      · rename_i g; rw [if_neg (by simp; omega)]
      · rfl
    rw [e] at hD
    rw [e2]
    have h1 : ¬ (97 ≤ c.toNat ∧ c.toNat ≤ 102) := h.2
    by_cases h97 : (97 : Int) ≤ (c.toNat : Int)
    · have h102 : ¬ (c.toNat : Int) ≤ 102 := by omega
      generalize (c.toNat) = x at *
      clear e e2 h h1
      go_enter Tryd.func55, Tryd.ntmps55
      go_wp2_with fail
      refine (hD _).mono ?_
      rintro e w1 ⟨rfl, rfl⟩
      go_wp2_with fail
      refine bodyPost_ret (by simp [results, Tryd.results55, go_sem]; rfl) rfl ?_
      exact ⟨rfl, rfl⟩
    · generalize (c.toNat) = x at *
      clear e e2 h h1
      go_enter Tryd.func55, Tryd.ntmps55
      go_wp2_with fail
      refine (hD _).mono ?_
      rintro e w1 ⟨rfl, rfl⟩
      go_wp2_with fail
      refine bodyPost_ret (by simp [results, Tryd.results55, go_sem]; rfl) rfl ?_
      exact ⟨rfl, rfl⟩
theorem rd_step16 {acc v : Nat} {x : UInt8} {r : List UInt8} (h : Rd.rd 16 acc (x :: r) = some v) : Rd.rd 16 (acc * 16 + Rd.dv x) r = some v := by
  unfold Rd.rd at h
  split at h
  · exact h
  · cases h
/-- the model's round over hexadecimal digits -/
def HxI (L : List UInt8) (p j acc : Nat) : Prop :=
  en (dgb 16) L (p + 2) = en (dgb 16) L j ∧ acc < 16 ^ (j - (p + 2)) ∧ ∀ v, Rd.rd 16 0 (dg L (p + 2) (en (dgb 16) L (p + 2))) = some v → Rd.rd 16 acc (dg L j (en (dgb 16) L (p + 2))) = some v
theorem HxI.start (L : List UInt8) (p : Nat) : HxI L p (p + 2) 0 := ⟨rfl, by simp, fun v h => h⟩
theorem HxI.step {L : List UInt8} {p j acc : Nat} (h : HxI L p j acc) (hp : p + 2 ≤ j) (hj : j < L.length) (hd : dgb 16 (lk L j) = true) : HxI L p (j + 1) (acc * 16 + Rd.dv (lk L j)) := by
  obtain ⟨h1, h2, h3⟩ := h
  obtain ⟨g1, g2⟩ := en_at (p := dgb 16) dgb_zero hd
  refine ⟨h1.trans g1, ?_, ?_⟩
  · have hv := (hv_yes hd).2
    rw [show j + 1 - (p + 2) = (j - (p + 2)) + 1 by omega, Nat.pow_succ]
    omega
  · intro v hv
    have := h3 v hv
    rw [dg_step (lk_at hj) (by rw [h1, g1]; have := en_ge (dgb 16) L (j + 1); omega)] at this
    exact rd_step16 this
set_option maxRecDepth 100000 in
set_option maxHeartbeats 4000000 in
theorem spec_hexed (T : ByteArray) (L : List UInt8) (hT : T.data.toList = L) (hlen : L.length ≤ 65536) (p : Nat) (hp : p + 2 ≤ L.length) {ok : Bool} {tn : Nat} {n : Int} (hn : Hx L p ok tn n) (kd : Int) (hkd : kd = if ok = true then 2 else 0) (w : World) :
    Calls Tryd.prog 54 #[.string T, tokV 2 p 0 0 0 ⟨#[]⟩] w (NumP w kd p tn n ⟨#[]⟩) := by
  have hs : T.size = L.length := by rw [← hT]; simp
  obtain ⟨M, hM, hLM⟩ : ∃ M : Int, M ≤ 65536 ∧ (L.length : Int) ≤ M := ⟨L.length, by omega, Int.le_refl _⟩
  have hpM : (p : Int) + 2 ≤ M := by omega
  have HLH : Hid (LkAll T L) := (fun j => spec_look T L hT j : LkAll T L)
  have HXH : Hid (IxAll T L) := (fun j c hj => ix T L hT j c hj : IxAll T L)
  have HN : Hid (Hx L p ok tn n ∧ kd = if ok = true then 2 else 0) := (⟨hn, hkd⟩ : _ ∧ _)
  have hst := Ts.start w 2 p 0 0 ⟨#[]⟩
  obtain ⟨W, hWe, hts⟩ : ∃ W, W = (w.alloc (.cells #[.int .i64 2, .int .i64 p, .int .i64 0, .int .i64 0, .int .i64 0, .string ⟨#[]⟩] 33)).alloc (.cells #[.int .i64 0, .int .i64 0, .int .i64 0, .int .i64 0, .int .i64 0, .string ⟨#[]⟩] 33) ∧ Ts w 2 p 0 0 ⟨#[]⟩ W := ⟨_, rfl, hst⟩
  have HTS : Hid (Ts w 2 p 0 0 ⟨#[]⟩ W) := hts
  have c1 := hts.c1
  clear hT hlen hn hkd hst hts
  show Calls Tryd.prog 54 #[.string T, .agg #[.int .i64 2, .int .i64 p, .int .i64 0, .int .i64 0, .int .i64 0, .string ⟨#[]⟩]] w _
  go_enter Tryd.func54, Tryd.ntmps54
  go_upto_block 0 with fail
  rw [← hWe]
  clear hWe
  go_wp2_with fail
  go_loop [6, 7] (fun s6 s7 => ∃ j acc : Nat, s6 = .int .i64 (j : Int) ∧ s7 = .int .u64 (acc : Int) ∧ p + 2 ≤ j ∧ j ≤ L.length ∧ j ≤ p + 18 ∧ HxI L p j acc) (fun s6 _ => L.length - (intOf s6).toNat)
  case atStart => exact ⟨p + 2, 0, by go_num, rfl, Nat.le_refl _, hp, by omega, HxI.start L p⟩
  case round =>
    obtain ⟨j, acc, rfl, rfl, hpj, hjL, hj18, HI⟩ := hrel
    have hl := (show LkAll T L from HLH) j
    have hx := spec_hexb (lk L j)
    have hjM : (j : Int) ≤ M := by omega
    cases hgo : dgb 16 (lk L j) with
    | true =>
      obtain ⟨hv1, hv2⟩ := hv_yes hgo
      rw [hv1] at hx
      obtain ⟨h1, hjn⟩ := en_at (p := dgb 16) dgb_zero hgo
      have hd0 : (0 : Int) ≤ (Rd.dv (lk L j) : Int) := by omega
      by_cases h18 : j = p + 18
      · have hI18 : (j : Int) - (p : Int) = 18 := by omega
        have HNT : Hid (kd = 0 ∧ tn = j) := by
          obtain ⟨g1, g2⟩ := (show Hx L p ok tn n ∧ kd = if ok = true then 2 else 0 from HN)
          have := HI.1
          have hge := en_ge (dgb 16) L (j + 1)
          cases g1 with
          | none k1 => omega
          | many k1 => rw [if_neg (by decide)] at g2; exact ⟨g2, h18.symm⟩
          | some e v k1 k2 k3 k4 => omega
        clear HI hgo h1 hv1 hv2 h18 HN hj18
        generalize ((lk L j).toNat : Int) = xj at hl hx
        generalize (Rd.dv (lk L j) : Int) = dj at *
        go_wp2_with fail
        refine (hl _).mono ?_
        rintro e w1 ⟨rfl, hw1⟩
        rw [hw1]
        clear hl hw1
        go_wp2_with fail
        refine (hx _).mono ?_
        rintro e w1 ⟨rfl, hw1⟩
        rw [hw1]
        clear hx hw1
        go_upto_region 5 with fail
        rename_i Kr hKr
        have HKR : Hid (∀ (a : Act) (w1 : World), bodyPost Tryd.prog Tryd.f54 (NumP w kd p tn n ⟨#[]⟩) Exit.ret a w1 → Kr a w1) := (fun a w1 h => hKr a w1 (wp_ret h) : ∀ (a : Act) (w1 : World), bodyPost Tryd.prog Tryd.f54 (NumP w kd p tn n ⟨#[]⟩) Exit.ret a w1 → Kr a w1)
        go_light
        have h6 := (show Ts w 2 p 0 0 ⟨#[]⟩ W from HTS)
        have hc0 := h6.c0
        have hc1 := h6.c1
        have hc2 := h6.c2
        have hc3 := h6.c3
        have hc4 := h6.c4
        have hc5 := h6.c5
        have z3 := h6.rz
        have g0 := z3.c0
        have g1 := z3.c1
        have g2 := z3.c2
        have g3 := z3.c3
        have g4 := z3.c4
        have g5 := z3.c5
        have v0 := z3.f0
        have v1 := z3.f1
        have v2 := z3.f2
        have v3 := z3.f3
        have v4 := z3.f4
        have v5 := z3.f5
        have e0 := st6_c0 z3
        have e1 := st6_c1 z3
        have e2 := st6_c2 z3
        have e3 := st6_c3 z3
        have e4 := st6_c4 z3
        have e5 := st6_c5 z3
        have HBL : Hid (Below w.heap.size w _) := h6.bel
        clear h6 z3
        go_wp2_with fail
        refine (show ∀ (a : Act) (w1 : World), bodyPost Tryd.prog Tryd.f54 (NumP w kd p tn n ⟨#[]⟩) Exit.ret a w1 → Kr a w1 from HKR) _ _ (bodyPost_ret (by simp [results, Tryd.results54, go_sem, e0, e1, e2, e3, e4, e5]; rfl) rfl ?_)
        exact ⟨st6_bel HBL (Nat.le_succ _) _ _ _ _ _ _, fun g => (g HNT.1).elim, fun _ => ⟨_, _, _, _, _, _, by rw [show tn = j from HNT.2]; rfl⟩⟩
      · have hI18 : ¬ (j : Int) - (p : Int) = 18 := by omega
        have hI18b : (((j : Int) - (p : Int)) == 18) = false := by simpa using hI18
        have hix := (show IxAll T L from HXH) j _ (lk_at hjn)
        have HI1 := HI.step hpj hjn hgo
        have hacc : (acc : Int) < 1152921504606846976 := by
          have h2 := HI.2.1
          have h3 : (16 : Nat) ^ (j - (p + 2)) ≤ 16 ^ 15 := Nat.pow_le_pow_right (by decide) (by omega)
          have h4 : (16 : Nat) ^ 15 = 1152921504606846976 := by decide
          omega
        have ha0 : (0 : Int) ≤ (acc : Int) := by omega
        have hd16 : (Rd.dv (lk L j) : Int) < 16 := by omega
        have HCAST : Hid (((acc * 16 + Rd.dv (lk L j) : Nat) : Int) = (acc : Int) * 16 + (Rd.dv (lk L j) : Int)) := by
          show ((acc * 16 + Rd.dv (lk L j) : Nat) : Int) = (acc : Int) * 16 + (Rd.dv (lk L j) : Int)
          omega
        have HJ : Hid (j + 1 ≤ p + 18) := (by omega : j + 1 ≤ p + 18)
        clear HI hgo h1 hv1 hv2 h18 HN hj18 HTS
        generalize ((lk L j).toNat : Int) = xj at hl hx hix
        generalize hdj : (Rd.dv (lk L j) : Int) = dj at *
        generalize hai : (acc : Int) = ai at *
        go_wp2_with fail
        refine (hl _).mono ?_
        rintro e w1 ⟨rfl, rfl⟩
        clear hl
        go_wp2_with fail
        refine (hx _).mono ?_
        rintro e w1 ⟨rfl, rfl⟩
        go_wp2_with fail
        refine (hx _).mono ?_
        rintro e w1 ⟨rfl, rfl⟩
        clear hx
        go_wp2_with fail
        go_round
        case rel => exact ⟨j + 1, acc * 16 + Rd.dv (lk L j), by go_num, by rw [show ((acc * 16 + Rd.dv (lk L j) : Nat) : Int) = ai * 16 + dj from HCAST] <;> go_num, by omega, by omega, HJ, HI1⟩
        case measure => simp [intOf]; omega
    | false =>
      rw [hv_no hgo] at hx
      have hE := HI.1
      rw [en_no hgo] at hE
      clear hgo
      generalize ((lk L j).toNat : Int) = xj at hl hx
      obtain ⟨g1, g2⟩ := (show Hx L p ok tn n ∧ kd = if ok = true then 2 else 0 from HN)
      by_cases hj2 : j = p + 2
      · have HNT : Hid (kd = 0 ∧ tn = j) := by
          cases g1 with
          | none k1 => rw [if_neg (by decide)] at g2; exact ⟨g2, hj2.symm⟩
          | many k1 => omega
          | some e v k1 k2 k3 k4 => omega
        have hjI : (j : Int) = (p : Int) + 2 := by omega
        have hjb : ((j : Int) == (p : Int) + 2) = true := by simpa using hjI
        clear HI hE g1 g2 hj2 HN hjI
        go_wp2_with fail
        refine (hl _).mono ?_
        rintro e w1 ⟨rfl, hw1⟩
        rw [hw1]
        clear hl hw1
        go_wp2_with fail
        refine (hx _).mono ?_
        rintro e w1 ⟨rfl, hw1⟩
        rw [hw1]
        clear hx hw1
        go_upto_region 9 with fail
        rename_i Kr hKr
        have HKR : Hid (∀ (a : Act) (w1 : World), bodyPost Tryd.prog Tryd.f54 (NumP w kd p tn n ⟨#[]⟩) Exit.ret a w1 → Kr a w1) := (fun a w1 h => hKr a w1 (wp_ret h) : ∀ (a : Act) (w1 : World), bodyPost Tryd.prog Tryd.f54 (NumP w kd p tn n ⟨#[]⟩) Exit.ret a w1 → Kr a w1)
        go_light
        have h6 := (show Ts w 2 p 0 0 ⟨#[]⟩ W from HTS)
        have hc0 := h6.c0
        have hc1 := h6.c1
        have hc2 := h6.c2
        have hc3 := h6.c3
        have hc4 := h6.c4
        have hc5 := h6.c5
        have z3 := h6.rz
        have g0 := z3.c0
        have g1 := z3.c1
        have g2 := z3.c2
        have g3 := z3.c3
        have g4 := z3.c4
        have g5 := z3.c5
        have v0 := z3.f0
        have v1 := z3.f1
        have v2 := z3.f2
        have v3 := z3.f3
        have v4 := z3.f4
        have v5 := z3.f5
        have e0 := st6_c0 z3
        have e1 := st6_c1 z3
        have e2 := st6_c2 z3
        have e3 := st6_c3 z3
        have e4 := st6_c4 z3
        have e5 := st6_c5 z3
        have HBL : Hid (Below w.heap.size w _) := h6.bel
        clear h6 z3
        go_wp2_with fail
        refine (show ∀ (a : Act) (w1 : World), bodyPost Tryd.prog Tryd.f54 (NumP w kd p tn n ⟨#[]⟩) Exit.ret a w1 → Kr a w1 from HKR) _ _ (bodyPost_ret (by simp [results, Tryd.results54, go_sem, e0, e1, e2, e3, e4, e5]; rfl) rfl ?_)
        exact ⟨st6_bel HBL (Nat.le_succ _) _ _ _ _ _ _, fun g => (g HNT.1).elim, fun _ => ⟨_, _, _, _, _, _, by rw [show tn = j from HNT.2]; rfl⟩⟩
      · have HNT : Hid (kd = 2 ∧ tn = j ∧ n = wrap64 (acc : Int)) := by
          cases g1 with
          | none k1 => omega
          | many k1 => omega
          | some e v k1 k2 k3 k4 =>
            rw [if_pos rfl] at g2
            have h9 := HI.2.2 v (by unfold dg; rw [k1]; exact k4)
            rw [hE, dg_end] at h9
            have h8 : acc = v := Option.some.inj h9
            exact ⟨g2, by omega, by rw [h8]⟩
        have hjb : ((j : Int) == (p : Int) + 2) = false := by simp; omega
        have hts := (show Ts w 2 p 0 0 ⟨#[]⟩ W from HTS)
        have c2 := hts.c2
        have c4 := (hts.set2 (j : Int)).c4
        have f2 := hts.fz 2
        have f4 := (hts.set2 (j : Int)).fz 4
        obtain ⟨W6, hW6, HT6⟩ : ∃ W6, W6 = (W.setCell ⟨w.heap.size, 2, none⟩ (.int .i64 (j : Int))).setCell ⟨w.heap.size, 4, none⟩ (.int .i64 (wrap64 (acc : Int))) ∧ Hid (Ts w 2 p j (wrap64 (acc : Int)) ⟨#[]⟩ W6) := ⟨_, rfl, (hts.set2 (j : Int)).set4 _⟩
        have ha0 : (0 : Int) ≤ (acc : Int) := by omega
        clear HI hE g1 g2 hj2 HN hts
        generalize (acc : Int) = ai at *
        go_wp2_with fail
        refine (hl _).mono ?_
        rintro e w1 ⟨rfl, hw1⟩
        rw [hw1]
        clear hl hw1
        go_wp2_with fail
        refine (hx _).mono ?_
        rintro e w1 ⟨rfl, hw1⟩
        rw [hw1]
        clear hx hw1
        go_upto_region 12 with fail
        rename_i Kr hKr
        have HKR : Hid (∀ (a : Act) (w1 : World), bodyPost Tryd.prog Tryd.f54 (NumP w kd p tn n ⟨#[]⟩) Exit.ret a w1 → Kr a w1) := (fun a w1 h => hKr a w1 (wp_ret h) : ∀ (a : Act) (w1 : World), bodyPost Tryd.prog Tryd.f54 (NumP w kd p tn n ⟨#[]⟩) Exit.ret a w1 → Kr a w1)
        go_light
        rw [← hW6]
        clear hW6 c2 c4 f2 f4 c1
        have h6 := (show Ts w 2 p j (wrap64 ai) ⟨#[]⟩ W6 from HT6)
        have hc0 := h6.c0
        have hc1 := h6.c1
        have hc2 := h6.c2
        have hc3 := h6.c3
        have hc4 := h6.c4
        have hc5 := h6.c5
        have z3 := h6.rz
        have g0 := z3.c0
        have g1 := z3.c1
        have g2 := z3.c2
        have g3 := z3.c3
        have g4 := z3.c4
        have g5 := z3.c5
        have v0 := z3.f0
        have v1 := z3.f1
        have v2 := z3.f2
        have v3 := z3.f3
        have v4 := z3.f4
        have v5 := z3.f5
        have e0 := st6_c0 z3
        have e1 := st6_c1 z3
        have e2 := st6_c2 z3
        have e3 := st6_c3 z3
        have e4 := st6_c4 z3
        have e5 := st6_c5 z3
        have HBL : Hid (Below w.heap.size w _) := h6.bel
        clear h6 z3
        go_wp2_with fail
        refine (show ∀ (a : Act) (w1 : World), bodyPost Tryd.prog Tryd.f54 (NumP w kd p tn n ⟨#[]⟩) Exit.ret a w1 → Kr a w1 from HKR) _ _ (bodyPost_ret (by simp [results, Tryd.results54, go_sem, e0, e1, e2, e3, e4, e5]; rfl) rfl ?_)
        obtain ⟨g1, g2, g3⟩ := (show kd = 2 ∧ tn = j ∧ n = wrap64 ai from HNT)
        subst g1 g2 g3
        exact ⟨st6_bel HBL (Nat.le_succ _) _ _ _ _ _ _, fun _ => rfl, fun g => absurd g (by decide)⟩
end Go.Proofs.YtogenhnonjkanaaDoor
namespace Go.Proofs.YtogenhnonjkanaaDoor
open Go.ChangeShapes Go.WideShapes Go.ChangeAt Go.RowKit
set_option linter.unusedVariables false
theorem Ts.size {w W : World} {k f t n : Int} {x : ByteArray} (h : Ts w k f t n x W) : w.heap.size + 1 < W.heap.size := by
  have := h.rz
  unfold Rz at this
  exact (Array.getElem?_eq_some_iff.1 this).1
theorem Ts.below {w W W' : World} {k f t n : Int} {x : ByteArray} (h : Ts w k f t n x W) (hb : Below W.heap.size W W') : Ts w k f t n x W' := by
  have hs := h.size
  refine ⟨h.bel.trans (hb.mono (by omega)), ?_, ?_⟩
  · rw [hb.block _ (by omega)]; exact h.tb
  · unfold Rz; rw [hb.block _ hs]; exact h.rz
set_option maxRecDepth 100000 in
set_option maxHeartbeats 4000000 in
theorem spec_numx (T : ByteArray) (L : List UInt8) (hT : T.data.toList = L) (hlen : L.length ≤ 65536) (p : Nat) (hx0 : lk L p = 48 ∧ lk L (p + 1) = 120) {ok : Bool} {tn : Nat} {n : Int} (hn : Hx L p ok tn n) (kd : Int) (hkd : kd = if ok = true then 2 else 0) (w : World) :
    Calls Tryd.prog 34 #[.string T, tokV 0 p 0 0 0 ⟨#[]⟩] w (NumP w kd p tn n ⟨#[]⟩) := by
  have hs : T.size = L.length := by rw [← hT]; simp
  have hp1 : p + 1 < L.length := lk_lt (by decide) hx0.2
  obtain ⟨M, hM, hLM⟩ : ∃ M : Int, M ≤ 65536 ∧ (L.length : Int) ≤ M := ⟨L.length, by omega, Int.le_refl _⟩
  have hpM : (p : Int) + 1 < M := by omega
  have hix0 := ix T L hT p _ (lk_at (by omega))
  rw [hx0.1] at hix0
  have hl1 : ∀ W, Calls Tryd.prog 30 #[.string T, .int .i64 ((p : Int) + 1)] W fun e w' => e = .returned (.int .u8 ((lk L (p + 1)).toNat : Int)) ∧ w' = W := fun W => by
    have := spec_look T L hT (p + 1) W
    rw [show ((p + 1 : Nat) : Int) = (p : Int) + 1 by omega] at this
    exact this
  rw [hx0.2] at hl1
  have hst := Ts.start w 2 p 0 0 ⟨#[]⟩
  obtain ⟨W, hWe, hts⟩ : ∃ W, W = (w.alloc (.cells #[.int .i64 2, .int .i64 p, .int .i64 0, .int .i64 0, .int .i64 0, .string ⟨#[]⟩] 33)).alloc (.cells #[.int .i64 0, .int .i64 0, .int .i64 0, .int .i64 0, .int .i64 0, .string ⟨#[]⟩] 33) ∧ Ts w 2 p 0 0 ⟨#[]⟩ W := ⟨_, rfl, hst⟩
  have HTS : Hid (Ts w 2 p 0 0 ⟨#[]⟩ W) := hts
  have hhx := spec_hexed T L hT hlen p (by omega) hn kd hkd W
  unfold tokV at hhx
  have c1 := hts.c1
  clear hT hlen hn hkd hst hts hx0
  show Calls Tryd.prog 34 #[.string T, .agg #[.int .i64 0, .int .i64 p, .int .i64 0, .int .i64 0, .int .i64 0, .string ⟨#[]⟩]] w _
  go_enter Tryd.func34, Tryd.ntmps34
  go_upto_region 3 with fail
  rw [← hWe]
  clear hWe
  go_wp2_with fail
  refine (hl1 _).mono ?_
  rintro e w1 ⟨rfl, hw1⟩
  rw [hw1]
  clear hw1 hl1 hix0
  go_upto_region 4 with fail
  rename_i Kr hKr
  have HKR : Hid (∀ (a : Act) (w1 : World), bodyPost Tryd.prog Tryd.f34 (NumP w kd p tn n ⟨#[]⟩) Exit.ret a w1 → Kr a w1) := (fun a w1 h => hKr a w1 (wp_ret h) : ∀ (a : Act) (w1 : World), bodyPost Tryd.prog Tryd.f34 (NumP w kd p tn n ⟨#[]⟩) Exit.ret a w1 → Kr a w1)
  go_light
  have hc0 := HTS.c0
  have hc2 := HTS.c2
  have hc3 := HTS.c3
  have hc4 := HTS.c4
  have hc5 := HTS.c5
  go_wp2_with fail
  refine hhx.mono ?_
  rintro e w2 ⟨hb2, hy, hz⟩
  have hT2 := (show Ts w 2 p 0 0 ⟨#[]⟩ W from HTS).below hb2
  have z3 := hT2.rz
  have g0 := z3.c0
  have g1 := z3.c1
  have g2 := z3.c2
  have g3 := z3.c3
  have g4 := z3.c4
  have g5 := z3.c5
  have v0 := z3.f0
  have v1 := z3.f1
  have v2 := z3.f2
  have v3 := z3.f3
  have v4 := z3.f4
  have v5 := z3.f5
  have e0 := st6_c0 z3
  have e1 := st6_c1 z3
  have e2 := st6_c2 z3
  have e3 := st6_c3 z3
  have e4 := st6_c4 z3
  have e5 := st6_c5 z3
  have HBL : Hid (Below w.heap.size w w2) := hT2.bel
  clear hhx hT2 z3 hc0 hc2 hc3 hc4 hc5 c1 HTS hb2
  by_cases hk0 : kd = 0
  · obtain ⟨a, b, c, d, m, t, he⟩ := hz hk0
    subst he
    have HK0 : Hid (kd = 0) := hk0
    clear hy hz hk0
    unfold tokV
    go_wp2_with fail
    refine (show ∀ (a : Act) (w1 : World), bodyPost Tryd.prog Tryd.f34 (NumP w kd p tn n ⟨#[]⟩) Exit.ret a w1 → Kr a w1 from HKR) _ _ (bodyPost_ret (by simp [results, Tryd.results34, go_sem, e0, e1, e2, e3, e4, e5]; rfl) rfl ?_)
    refine ⟨st6_bel HBL (Nat.le_succ _) _ _ _ _ _ _, fun g => (g HK0).elim, fun _ => ⟨_, _, _, _, _, _, rfl⟩⟩
  · have he := hy hk0
    subst he
    have HK0 : Hid (kd ≠ 0) := hk0
    clear hy hz hk0
    unfold tokV
    go_wp2_with fail
    refine (show ∀ (a : Act) (w1 : World), bodyPost Tryd.prog Tryd.f34 (NumP w kd p tn n ⟨#[]⟩) Exit.ret a w1 → Kr a w1 from HKR) _ _ (bodyPost_ret (by simp [results, Tryd.results34, go_sem, e0, e1, e2, e3, e4, e5]; rfl) rfl ?_)
    refine ⟨st6_bel HBL (Nat.le_succ _) _ _ _ _ _ _, fun _ => rfl, fun g => (HK0 g).elim⟩
end Go.Proofs.YtogenhnonjkanaaDoor
