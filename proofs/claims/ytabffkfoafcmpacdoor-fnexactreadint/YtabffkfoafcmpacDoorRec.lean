import Derived.Test.YtabffkfoafcmpacDoorReb
namespace Go.Proofs.YtabffkfoafcmpacDoor
open Go.ChangeShapes Go.WideShapes Go.ChangeAt Go.RowKit
set_option linter.unusedVariables false
/-- what is answered behind the sign -/
def ansT (b : Nat) (neg : Bool) (R : List UInt8) : Int × Int :=
  if R = [] then (2, 0) else if R.all (fun c => decide (dv c < b)) = false then (2, 0) else
  match rd b 0 R with
  | none => (3, 0)
  | some v => if 9223372036854775808 < v ∨ (v = 9223372036854775808 ∧ neg = false) then (3, 0) else (0, if neg then -(v : Int) else v)
def whole (p : Int × Int) : Value := .agg #[.int .i64 p.1, .int .i64 p.2]
/-- the four heads of a text -/
inductive Head (T : ByteArray) (L : List UInt8) : Bool → ByteArray → List UInt8 → Prop
  | empty (h : L = []) : Head T L false T L
  | minus (r : List UInt8) (R : ByteArray) (h : L = 45 :: r) (hR : R.data.toList = r) : Head T L true R r
  | plus (r : List UInt8) (R : ByteArray) (h : L = 43 :: r) (hR : R.data.toList = r) : Head T L false R r
  | other (c : UInt8) (r : List UInt8) (h : L = c :: r) (h1 : c.toNat ≠ 45) (h2 : c.toNat ≠ 43) : Head T L false T L
theorem slice1 (T : ByteArray) (R : ByteArray) (c : UInt8) (r : List UInt8) (hT : T.data.toList = c :: r) (hR : R.data.toList = r) (w : World) :
    (Instr.slice 9 (.string T) (some (.int .i64 1)) none none).run Tryd.prog w = .ok (.string R) w := by
  have hs : T.size = r.length + 1 := by
    have : T.data.toList.length = r.length + 1 := by rw [hT]; simp
    simpa using this
  rw [run_slice_string_l (P := Tryd.prog) w 9 T Tryd.underlying9 .i64 1 (by omega) (by omega)]
  have e : T.extract (1 : Int).toNat T.size = R := by
    apply ByteArray.ext
    apply Array.ext'
    rw [hR]
    have : (T.extract 1 T.size).data.toList = T.data.toList.drop 1 := by
      simp [ByteArray.data_extract]
      rw [hT, hs]
      simp
    simpa [hT] using this
  rw [e]
theorem emp (R : ByteArray) (h : 0 < R.data.toList.length) : R.toList.isEmpty = false := by
  rw [← decide_eq_emptyBytes]
  exact decide_eq_false (fun g => by rw [g] at h; simp at h)
theorem rd_lt (b : Nat) : ∀ (L : List UInt8) (acc v : Nat), acc < 18446744073709551616 → rd b acc L = some v → v < 18446744073709551616
  | [], acc, v, h, e => by simp [rd] at e; omega
  | c :: r, acc, v, h, e => by
    unfold rd at e
    split at e
    · rename_i hlt
      exact rd_lt b r _ v hlt e
    · cases e
theorem ans_nil (b : Nat) (neg : Bool) (R : List UInt8) (h : R.length = 0) : ansT b neg R = (2, 0) := by
  unfold ansT; rw [if_pos (by simpa using h)]
theorem ans_bad (b : Nat) (neg : Bool) (R : List UInt8) (c : UInt8) (hc : c ∈ R) (h : ¬ dv c < b) : ansT b neg R = (2, 0) := by
  unfold ansT
  by_cases hn : R = []
  · rw [if_pos hn]
  · rw [if_neg hn, if_pos]
    rw [List.all_eq_false]
    exact ⟨c, hc, by simpa using h⟩
theorem ans_good (b : Nat) (neg : Bool) (R : List UInt8) (hd : ∀ c ∈ R, dv c < b) (hne : 0 < R.length) : ansT b neg R = match rd b 0 R with
  | none => (3, 0)
  | some v => if 9223372036854775808 < v ∨ (v = 9223372036854775808 ∧ neg = false) then (3, 0) else (0, if neg then -(v : Int) else v) := by
  unfold ansT
  have h1 : R ≠ [] := by intro h; rw [h] at hne; simp at hne
  have h2 : R.all (fun c => decide (dv c < b)) = true := by rw [List.all_eq_true]; intro c hc; simpa using hd c hc
  rw [if_neg h1, if_neg (by rw [h2]; simp)]
theorem ans_none (b : Nat) (neg : Bool) (R : List UInt8) (hd : ∀ c ∈ R, dv c < b) (hne : 0 < R.length) (h : rd b 0 R = none) : ansT b neg R = (3, 0) := by
  rw [ans_good b neg R hd hne, h]
theorem ans_some (b : Nat) (neg : Bool) (R : List UInt8) (hd : ∀ c ∈ R, dv c < b) (hne : 0 < R.length) (v : Nat) (h : rd b 0 R = some v) : ansT b neg R = if 9223372036854775808 < v ∨ (v = 9223372036854775808 ∧ neg = false) then (3, 0) else (0, if neg then -(v : Int) else v) := by
  rw [ans_good b neg R hd hne, h]
set_option maxRecDepth 100000 in
set_option maxHeartbeats 4000000 in
theorem spec_read_minus (b : Nat) (hb : 2 ≤ b) (hb2 : b ≤ 36) (T R : ByteArray) (L LR : List UInt8) (hT : T.data.toList = L) (hlen : L.length ≤ 1200) (hR : R.data.toList = LR) (hL : L = 45 :: LR) (w : World) :
    Calls Tryd.prog 10 #[.string T, .int .i64 b] w fun e w' => e = .returned (whole (ansT b true LR)) ∧ Grown w w' := by
  have hsz : T.size = L.length := by rw [← hT]; simp
  have hsr : R.size = LR.length := by rw [← hR]; simp
  have H17 := spec_dig
  have HX := fun k c hk => ix R LR hR k c hk
  have hlr : LR.length ≤ 1200 := by rw [hL] at hlen; simp at hlen; omega
  have H18 := fun hd hne w => spec_whole b hb hb2 R LR hR hlr hd hne w
  have hemp := emp R
  rw [hR] at hemp
  have hx0 : ∀ w, (Instr.index 9 (.string T) (.int .i64 0)).run Tryd.prog w = .ok (.int .u8 45) w := ix T L hT 0 45 (by rw [hL]; rfl)
  have hsl := slice1 T R 45 LR (hT.trans hL) hR
  have hs1 : T.size = LR.length + 1 := by rw [hsz, hL]; simp
  have hs2 : (T.size : Int) ≤ 1200 := by omega
  have hs3 : (0 : Int) < (T.size : Int) := by omega
  clear hT hL hlen hsz
  · go_enter Tryd.func10, Tryd.ntmps10
    go_wp2
    clear hx0 hsl hs1 hs2 hs3
    go_loop [7] (fun vi => ∃ k : Nat, vi = .int .i64 k ∧ k ≤ LR.length ∧ Hid (∀ c ∈ LR.take k, dv c < b)) (fun vi => LR.length - (intOf vi).toNat)
    case atStart => exact ⟨0, rfl, by omega, (by simp : ∀ c ∈ LR.take 0, dv c < b)⟩
    case round =>
      obtain ⟨k, rfl, hk, hg⟩ := hrel
      by_cases hkn : k < LR.length
      · have hgx := HX k LR[k] (List.getElem?_eq_getElem hkn)
        have h17 := H17 LR[k]
        by_cases hgood : dv LR[k] < b
        · have HN : Hid (∀ c ∈ LR.take (k + 1), dv c < b) := by
            show ∀ c ∈ LR.take (k + 1), dv c < b
            intro c hc
            rw [List.take_succ_eq_append_getElem hkn, List.mem_append] at hc
            rcases hc with hc | hc
            · exact (show ∀ c ∈ LR.take k, dv c < b from hg) c hc
            · simp at hc; rw [hc]; exact hgood
          have g3 : (dv LR[k] : Int) < (b : Int) := by omega
          generalize LR[k] = c at hgx h17 g3
          clear hgood hg H17 HX H18 hemp
          generalize (dv c : Int) = dc at *
          go_wp2_with (go_at_call 17; refine (h17 _).mono ?_; rintro e w' ⟨rfl, rfl⟩)
          exact ⟨⟨k + 1, (by first | rfl | (congr 1; omega)), by omega, HN⟩, by simp [intOf]; omega⟩
        · have HE : Hid (ansT b true LR = (2, 0)) := ans_bad b true LR LR[k] (List.getElem_mem hkn) hgood
          have g3 : ¬ (dv LR[k] : Int) < (b : Int) := by omega
          generalize LR[k] = c at hgx h17 g3
          clear hgood hg H17 HX H18 hemp
          generalize (dv c : Int) = dc at *
          go_wp2_with (go_at_call 17; refine (h17 _).mono ?_; rintro e w' ⟨rfl, rfl⟩)
          go_returns
          refine ⟨?_, by go_grown⟩
          rw [show ansT b true LR = (2, 0) from HE]
          rfl
      · obtain rfl : k = LR.length := by omega
        have hall : ∀ c ∈ LR, dv c < b := by
          have := (show ∀ c ∈ LR.take LR.length, dv c < b from hg)
          rwa [List.take_length] at this
        clear hg HX H17
        by_cases hne : LR.length = 0
        · have HE : Hid (ansT b true LR = (2, 0)) := ans_nil b true LR hne
          obtain rfl : R = ⟨#[]⟩ := by
            apply ByteArray.ext; apply Array.ext'; rw [hR]; simpa using hne
          clear hemp H18 hall
          go_wp2
          go_returns
          refine ⟨?_, by go_grown⟩
          rw [show ansT b true LR = (2, 0) from HE]
          rfl
        · have he := hemp (by omega)
          have h18 := H18 hall (by omega)
          clear hemp H18
          cases hrd : rd b 0 LR with
          | none =>
            have HE : Hid (ansT b true LR = (3, 0)) := ans_none b true LR hall (by omega) hrd
            rw [hrd] at h18
            have h18' : ∀ w, Calls Tryd.prog 18 #[.string R, .int .i64 b] w fun e w' => e = .returned (.tuple #[.int .u64 0, .bool false]) ∧ w' = w := h18
            clear h18 hrd hall
            go_wp2_with (go_at_call 18; refine (h18' _).mono ?_; rintro e w' ⟨rfl, rfl⟩)
            go_returns
            refine ⟨?_, by go_grown⟩
            rw [show ansT b true LR = (3, 0) from HE]
            rfl
          | some v =>
            have hvlt := rd_lt b LR 0 v (by omega) hrd
            have HE := ans_some b true LR hall (by omega) v hrd
            rw [hrd] at h18
            have h18' : ∀ w, Calls Tryd.prog 18 #[.string R, .int .i64 b] w fun e w' => e = .returned (.tuple #[.int .u64 (v : Int), .bool true]) ∧ w' = w := h18
            clear h18 hrd hall
            rcases Nat.lt_trichotomy v 9223372036854775808 with hv | hv | hv
            · have HE2 : Hid (ansT b true LR = (0, -(v : Int))) := by
                show ansT b true LR = (0, -(v : Int))
                rw [HE, if_neg (by omega)]
                rfl
              have i0 : (0 : Int) ≤ (v : Int) := by omega
              have i1 : (v : Int) < 9223372036854775808 := by omega
              clear HE hv hvlt
              generalize (v : Int) = z at *
              go_wp2_with (go_at_call 18; refine (h18' _).mono ?_; rintro e w' ⟨rfl, rfl⟩)
              go_returns
              refine ⟨?_, by go_grown⟩
              rw [show ansT b true LR = (0, -z) from HE2]
              rfl
            · subst hv
              have HE2 : Hid (ansT b true LR = (0, -9223372036854775808)) := by
                show ansT b true LR = (0, -9223372036854775808)
                rw [HE]
                rfl
              have h18'' : ∀ w, Calls Tryd.prog 18 #[.string R, .int .i64 b] w fun e w' => e = .returned (.tuple #[.int .u64 9223372036854775808, .bool true]) ∧ w' = w := h18'
              clear HE hvlt h18'
              go_wp2_with (go_at_call 18; refine (h18'' _).mono ?_; rintro e w' ⟨rfl, rfl⟩)
              go_returns
              refine ⟨?_, by go_grown⟩
              rw [show ansT b true LR = (0, -9223372036854775808) from HE2]
              have e : wrap64 (-wrap64 9223372036854775808) = -9223372036854775808 := by decide +kernel
              rw [e]
              rfl
            · have HE2 : Hid (ansT b true LR = (3, 0)) := by
                show ansT b true LR = (3, 0)
                rw [HE, if_pos (Or.inl hv)]
              have i0 : (9223372036854775808 : Int) < (v : Int) := by omega
              have i1 : (v : Int) < 18446744073709551616 := by omega
              clear HE hv hvlt
              generalize (v : Int) = z at *
              go_wp2_with (go_at_call 18; refine (h18' _).mono ?_; rintro e w' ⟨rfl, rfl⟩)
              go_returns
              refine ⟨?_, by go_grown⟩
              rw [show ansT b true LR = (3, 0) from HE2]
              rfl
set_option maxRecDepth 100000 in
set_option maxHeartbeats 4000000 in
theorem spec_read_plus (b : Nat) (hb : 2 ≤ b) (hb2 : b ≤ 36) (T R : ByteArray) (L LR : List UInt8) (hT : T.data.toList = L) (hlen : L.length ≤ 1200) (hR : R.data.toList = LR) (hL : L = 43 :: LR) (w : World) :
    Calls Tryd.prog 10 #[.string T, .int .i64 b] w fun e w' => e = .returned (whole (ansT b false LR)) ∧ Grown w w' := by
  have hsz : T.size = L.length := by rw [← hT]; simp
  have hsr : R.size = LR.length := by rw [← hR]; simp
  have H17 := spec_dig
  have HX := fun k c hk => ix R LR hR k c hk
  have hlr : LR.length ≤ 1200 := by rw [hL] at hlen; simp at hlen; omega
  have H18 := fun hd hne w => spec_whole b hb hb2 R LR hR hlr hd hne w
  have hemp := emp R
  rw [hR] at hemp
  have hx0 : ∀ w, (Instr.index 9 (.string T) (.int .i64 0)).run Tryd.prog w = .ok (.int .u8 43) w := ix T L hT 0 43 (by rw [hL]; rfl)
  have hsl := slice1 T R 43 LR (hT.trans hL) hR
  have hs1 : T.size = LR.length + 1 := by rw [hsz, hL]; simp
  have hs2 : (T.size : Int) ≤ 1200 := by omega
  have hs3 : (0 : Int) < (T.size : Int) := by omega
  clear hT hL hlen hsz
  · go_enter Tryd.func10, Tryd.ntmps10
    go_wp2
    clear hx0 hsl hs1 hs2 hs3
    go_loop [7] (fun vi => ∃ k : Nat, vi = .int .i64 k ∧ k ≤ LR.length ∧ Hid (∀ c ∈ LR.take k, dv c < b)) (fun vi => LR.length - (intOf vi).toNat)
    case atStart => exact ⟨0, rfl, by omega, (by simp : ∀ c ∈ LR.take 0, dv c < b)⟩
    case round =>
      obtain ⟨k, rfl, hk, hg⟩ := hrel
      by_cases hkn : k < LR.length
      · have hgx := HX k LR[k] (List.getElem?_eq_getElem hkn)
        have h17 := H17 LR[k]
        by_cases hgood : dv LR[k] < b
        · have HN : Hid (∀ c ∈ LR.take (k + 1), dv c < b) := by
            show ∀ c ∈ LR.take (k + 1), dv c < b
            intro c hc
            rw [List.take_succ_eq_append_getElem hkn, List.mem_append] at hc
            rcases hc with hc | hc
            · exact (show ∀ c ∈ LR.take k, dv c < b from hg) c hc
            · simp at hc; rw [hc]; exact hgood
          have g3 : (dv LR[k] : Int) < (b : Int) := by omega
          generalize LR[k] = c at hgx h17 g3
          clear hgood hg H17 HX H18 hemp
          generalize (dv c : Int) = dc at *
          go_wp2_with (go_at_call 17; refine (h17 _).mono ?_; rintro e w' ⟨rfl, rfl⟩)
          exact ⟨⟨k + 1, (by first | rfl | (congr 1; omega)), by omega, HN⟩, by simp [intOf]; omega⟩
        · have HE : Hid (ansT b false LR = (2, 0)) := ans_bad b false LR LR[k] (List.getElem_mem hkn) hgood
          have g3 : ¬ (dv LR[k] : Int) < (b : Int) := by omega
          generalize LR[k] = c at hgx h17 g3
          clear hgood hg H17 HX H18 hemp
          generalize (dv c : Int) = dc at *
          go_wp2_with (go_at_call 17; refine (h17 _).mono ?_; rintro e w' ⟨rfl, rfl⟩)
          go_returns
          refine ⟨?_, by go_grown⟩
          rw [show ansT b false LR = (2, 0) from HE]
          rfl
      · obtain rfl : k = LR.length := by omega
        have hall : ∀ c ∈ LR, dv c < b := by
          have := (show ∀ c ∈ LR.take LR.length, dv c < b from hg)
          rwa [List.take_length] at this
        clear hg HX H17
        by_cases hne : LR.length = 0
        · have HE : Hid (ansT b false LR = (2, 0)) := ans_nil b false LR hne
          obtain rfl : R = ⟨#[]⟩ := by
            apply ByteArray.ext; apply Array.ext'; rw [hR]; simpa using hne
          clear hemp H18 hall
          go_wp2
          go_returns
          refine ⟨?_, by go_grown⟩
          rw [show ansT b false LR = (2, 0) from HE]
          rfl
        · have he := hemp (by omega)
          have h18 := H18 hall (by omega)
          clear hemp H18
          cases hrd : rd b 0 LR with
          | none =>
            have HE : Hid (ansT b false LR = (3, 0)) := ans_none b false LR hall (by omega) hrd
            rw [hrd] at h18
            have h18' : ∀ w, Calls Tryd.prog 18 #[.string R, .int .i64 b] w fun e w' => e = .returned (.tuple #[.int .u64 0, .bool false]) ∧ w' = w := h18
            clear h18 hrd hall
            go_wp2_with (go_at_call 18; refine (h18' _).mono ?_; rintro e w' ⟨rfl, rfl⟩)
            go_returns
            refine ⟨?_, by go_grown⟩
            rw [show ansT b false LR = (3, 0) from HE]
            rfl
          | some v =>
            have hvlt := rd_lt b LR 0 v (by omega) hrd
            have HE := ans_some b false LR hall (by omega) v hrd
            rw [hrd] at h18
            have h18' : ∀ w, Calls Tryd.prog 18 #[.string R, .int .i64 b] w fun e w' => e = .returned (.tuple #[.int .u64 (v : Int), .bool true]) ∧ w' = w := h18
            clear h18 hrd hall
            rcases Nat.lt_trichotomy v 9223372036854775808 with hv | hv | hv
            · have HE2 : Hid (ansT b false LR = (0, (v : Int))) := by
                show ansT b false LR = (0, (v : Int))
                rw [HE, if_neg (by omega)]
                rfl
              have i0 : (0 : Int) ≤ (v : Int) := by omega
              have i1 : (v : Int) < 9223372036854775808 := by omega
              clear HE hv hvlt
              generalize (v : Int) = z at *
              go_wp2_with (go_at_call 18; refine (h18' _).mono ?_; rintro e w' ⟨rfl, rfl⟩)
              go_returns
              refine ⟨?_, by go_grown⟩
              rw [show ansT b false LR = (0, z) from HE2]
              rfl
            · subst hv
              have HE2 : Hid (ansT b false LR = (3, 0)) := by
                show ansT b false LR = (3, 0)
                rw [HE]
                rfl
              have h18'' : ∀ w, Calls Tryd.prog 18 #[.string R, .int .i64 b] w fun e w' => e = .returned (.tuple #[.int .u64 9223372036854775808, .bool true]) ∧ w' = w := h18'
              clear HE hvlt h18'
              go_wp2_with (go_at_call 18; refine (h18'' _).mono ?_; rintro e w' ⟨rfl, rfl⟩)
              go_returns
              refine ⟨?_, by go_grown⟩
              rw [show ansT b false LR = (3, 0) from HE2]
              rfl
            · have HE2 : Hid (ansT b false LR = (3, 0)) := by
                show ansT b false LR = (3, 0)
                rw [HE, if_pos (Or.inl hv)]
              have i0 : (9223372036854775808 : Int) < (v : Int) := by omega
              have i1 : (v : Int) < 18446744073709551616 := by omega
              clear HE hv hvlt
              generalize (v : Int) = z at *
              go_wp2_with (go_at_call 18; refine (h18' _).mono ?_; rintro e w' ⟨rfl, rfl⟩)
              go_returns
              refine ⟨?_, by go_grown⟩
              rw [show ansT b false LR = (3, 0) from HE2]
              rfl
set_option maxRecDepth 100000 in
set_option maxHeartbeats 4000000 in
theorem spec_read_other (b : Nat) (hb : 2 ≤ b) (hb2 : b ≤ 36) (T R : ByteArray) (L LR : List UInt8) (hT : T.data.toList = L) (hlen : L.length ≤ 1200) (hR : R.data.toList = LR) (hTR : R = T) (c : UInt8) (r : List UInt8) (hL : LR = c :: r) (h1 : c.toNat ≠ 45) (h2 : c.toNat ≠ 43) (w : World) :
    Calls Tryd.prog 10 #[.string T, .int .i64 b] w fun e w' => e = .returned (whole (ansT b false LR)) ∧ Grown w w' := by
  have hsz : T.size = L.length := by rw [← hT]; simp
  have hsr : R.size = LR.length := by rw [← hR]; simp
  have H17 := spec_dig
  have HX := fun k c hk => ix R LR hR k c hk
  have hlr : LR.length ≤ 1200 := by have : LR = L := hR.symm.trans (by rw [hTR]; exact hT); rw [this]; exact hlen
  have H18 := fun hd hne w => spec_whole b hb hb2 R LR hR hlr hd hne w
  have hemp := emp R
  rw [hR] at hemp
  subst hTR
  have hx0 : ∀ w, (Instr.index 9 (.string R) (.int .i64 0)).run Tryd.prog w = .ok (.int .u8 (c.toNat : Int)) w := ix R LR hR 0 c (by rw [hL]; rfl)
  have hs1 : 0 < LR.length := by rw [hL]; simp
  have hs2 : (R.size : Int) ≤ 1200 := by omega
  have hs3 : (0 : Int) < (R.size : Int) := by omega
  have j1 : ((c.toNat : Int) == 45) = false := by simp; omega
  have j2 : ((c.toNat : Int) == 43) = false := by simp; omega
  clear hT hL hlen hsz h1 h2
  · generalize (c.toNat : Int) = n0 at *
    go_enter Tryd.func10, Tryd.ntmps10
    go_wp2
    clear hx0 hs1 hs2 hs3 j1 j2
    go_loop [7] (fun vi => ∃ k : Nat, vi = .int .i64 k ∧ k ≤ LR.length ∧ Hid (∀ c ∈ LR.take k, dv c < b)) (fun vi => LR.length - (intOf vi).toNat)
    case atStart => exact ⟨0, rfl, by omega, (by simp : ∀ c ∈ LR.take 0, dv c < b)⟩
    case round =>
      obtain ⟨k, rfl, hk, hg⟩ := hrel
      by_cases hkn : k < LR.length
      · have hgx := HX k LR[k] (List.getElem?_eq_getElem hkn)
        have h17 := H17 LR[k]
        by_cases hgood : dv LR[k] < b
        · have HN : Hid (∀ c ∈ LR.take (k + 1), dv c < b) := by
            show ∀ c ∈ LR.take (k + 1), dv c < b
            intro c hc
            rw [List.take_succ_eq_append_getElem hkn, List.mem_append] at hc
            rcases hc with hc | hc
            · exact (show ∀ c ∈ LR.take k, dv c < b from hg) c hc
            · simp at hc; rw [hc]; exact hgood
          have g3 : (dv LR[k] : Int) < (b : Int) := by omega
          generalize LR[k] = c at hgx h17 g3
          clear hgood hg H17 HX H18 hemp
          generalize (dv c : Int) = dc at *
          go_wp2_with (go_at_call 17; refine (h17 _).mono ?_; rintro e w' ⟨rfl, rfl⟩)
          exact ⟨⟨k + 1, (by first | rfl | (congr 1; omega)), by omega, HN⟩, by simp [intOf]; omega⟩
        · have HE : Hid (ansT b false LR = (2, 0)) := ans_bad b false LR LR[k] (List.getElem_mem hkn) hgood
          have g3 : ¬ (dv LR[k] : Int) < (b : Int) := by omega
          generalize LR[k] = c at hgx h17 g3
          clear hgood hg H17 HX H18 hemp
          generalize (dv c : Int) = dc at *
          go_wp2_with (go_at_call 17; refine (h17 _).mono ?_; rintro e w' ⟨rfl, rfl⟩)
          go_returns
          refine ⟨?_, by go_grown⟩
          rw [show ansT b false LR = (2, 0) from HE]
          rfl
      · obtain rfl : k = LR.length := by omega
        have hall : ∀ c ∈ LR, dv c < b := by
          have := (show ∀ c ∈ LR.take LR.length, dv c < b from hg)
          rwa [List.take_length] at this
        clear hg HX H17
        by_cases hne : LR.length = 0
        · have HE : Hid (ansT b false LR = (2, 0)) := ans_nil b false LR hne
          obtain rfl : R = ⟨#[]⟩ := by
            apply ByteArray.ext; apply Array.ext'; rw [hR]; simpa using hne
          clear hemp H18 hall
          go_wp2
          go_returns
          refine ⟨?_, by go_grown⟩
          rw [show ansT b false LR = (2, 0) from HE]
          rfl
        · have he := hemp (by omega)
          have h18 := H18 hall (by omega)
          clear hemp H18
          cases hrd : rd b 0 LR with
          | none =>
            have HE : Hid (ansT b false LR = (3, 0)) := ans_none b false LR hall (by omega) hrd
            rw [hrd] at h18
            have h18' : ∀ w, Calls Tryd.prog 18 #[.string R, .int .i64 b] w fun e w' => e = .returned (.tuple #[.int .u64 0, .bool false]) ∧ w' = w := h18
            clear h18 hrd hall
            go_wp2_with (go_at_call 18; refine (h18' _).mono ?_; rintro e w' ⟨rfl, rfl⟩)
            go_returns
            refine ⟨?_, by go_grown⟩
            rw [show ansT b false LR = (3, 0) from HE]
            rfl
          | some v =>
            have hvlt := rd_lt b LR 0 v (by omega) hrd
            have HE := ans_some b false LR hall (by omega) v hrd
            rw [hrd] at h18
            have h18' : ∀ w, Calls Tryd.prog 18 #[.string R, .int .i64 b] w fun e w' => e = .returned (.tuple #[.int .u64 (v : Int), .bool true]) ∧ w' = w := h18
            clear h18 hrd hall
            rcases Nat.lt_trichotomy v 9223372036854775808 with hv | hv | hv
            · have HE2 : Hid (ansT b false LR = (0, (v : Int))) := by
                show ansT b false LR = (0, (v : Int))
                rw [HE, if_neg (by omega)]
                rfl
              have i0 : (0 : Int) ≤ (v : Int) := by omega
              have i1 : (v : Int) < 9223372036854775808 := by omega
              clear HE hv hvlt
              generalize (v : Int) = z at *
              go_wp2_with (go_at_call 18; refine (h18' _).mono ?_; rintro e w' ⟨rfl, rfl⟩)
              go_returns
              refine ⟨?_, by go_grown⟩
              rw [show ansT b false LR = (0, z) from HE2]
              rfl
            · subst hv
              have HE2 : Hid (ansT b false LR = (3, 0)) := by
                show ansT b false LR = (3, 0)
                rw [HE]
                rfl
              have h18'' : ∀ w, Calls Tryd.prog 18 #[.string R, .int .i64 b] w fun e w' => e = .returned (.tuple #[.int .u64 9223372036854775808, .bool true]) ∧ w' = w := h18'
              clear HE hvlt h18'
              go_wp2_with (go_at_call 18; refine (h18'' _).mono ?_; rintro e w' ⟨rfl, rfl⟩)
              go_returns
              refine ⟨?_, by go_grown⟩
              rw [show ansT b false LR = (3, 0) from HE2]
              rfl
            · have HE2 : Hid (ansT b false LR = (3, 0)) := by
                show ansT b false LR = (3, 0)
                rw [HE, if_pos (Or.inl hv)]
              have i0 : (9223372036854775808 : Int) < (v : Int) := by omega
              have i1 : (v : Int) < 18446744073709551616 := by omega
              clear HE hv hvlt
              generalize (v : Int) = z at *
              go_wp2_with (go_at_call 18; refine (h18' _).mono ?_; rintro e w' ⟨rfl, rfl⟩)
              go_returns
              refine ⟨?_, by go_grown⟩
              rw [show ansT b false LR = (3, 0) from HE2]
              rfl
theorem spec_read_empty (b : Nat) (hb : 2 ≤ b) (hb2 : b ≤ 36) (w : World) :
    Calls Tryd.prog 10 #[.string ⟨#[]⟩, .int .i64 b] w fun e w' => e = .returned (whole (2, 0)) ∧ Grown w w' := by
  go_enter Tryd.func10, Tryd.ntmps10
  go_wp2
  go_loop [7] (fun vi => vi = .int .i64 0) (fun vi => (intOf vi).toNat)
  case atStart => rfl
  case round =>
    subst hrel
    go_wp2
    go_returns
    exact ⟨rfl, by go_grown⟩
theorem spec_read (b : Nat) (hb : 2 ≤ b) (hb2 : b ≤ 36) (T R : ByteArray) (L LR : List UInt8) (neg : Bool) (hT : T.data.toList = L) (hlen : L.length ≤ 1200) (hR : R.data.toList = LR) (hh : Head T L neg R LR) (w : World) :
    Calls Tryd.prog 10 #[.string T, .int .i64 b] w fun e w' => e = .returned (whole (ansT b neg LR)) ∧ Grown w w' := by
  cases hh with
  | empty h =>
    obtain rfl : T = ⟨#[]⟩ := by
      apply ByteArray.ext; apply Array.ext'; rw [hT, h]
    rw [ans_nil b false L (by rw [h]; rfl)]
    exact spec_read_empty b hb hb2 w
  | minus _ _ h _ => exact spec_read_minus b hb hb2 T R L LR hT hlen hR h w
  | plus _ _ h _ => exact spec_read_plus b hb hb2 T R L LR hT hlen hR h w
  | other c r h h1 h2 => exact spec_read_other b hb hb2 T T L L hT hlen hT rfl c r h h1 h2 w
theorem spec_read_none (b : Int) (T : ByteArray) (h : b < 2 ∨ 36 < b ∨ 1200 < (T.size : Int)) (w : World) :
    Calls Tryd.prog 10 #[.string T, .int .i64 b] w fun e w' => e = .returned (whole (1, 0)) ∧ Grown w w' := by
  rcases h with h | h | h
  · go_enter Tryd.func10, Tryd.ntmps10
    go_wp2
    go_returns
    exact ⟨rfl, by go_grown⟩
  · have h2 : ¬ b < 2 := by omega
    go_enter Tryd.func10, Tryd.ntmps10
    go_wp2
    go_returns
    exact ⟨rfl, by go_grown⟩
  · by_cases h3 : b < 2
    · go_enter Tryd.func10, Tryd.ntmps10
      go_wp2
      go_returns
      exact ⟨rfl, by go_grown⟩
    · by_cases h4 : 36 < b
      · go_enter Tryd.func10, Tryd.ntmps10
        go_wp2
        go_returns
        exact ⟨rfl, by go_grown⟩
      · go_enter Tryd.func10, Tryd.ntmps10
        go_wp2
        go_returns
        exact ⟨rfl, by go_grown⟩
end Go.Proofs.YtabffkfoafcmpacDoor
