import Derived.Test.YtogenhnonjkanaaDoorMSbh
namespace Go.Proofs.YtogenhnonjkanaaDoor
open Go.ChangeShapes Go.WideShapes Go.ChangeAt Go.RowKit
set_option linter.unusedVariables false
theorem first_bad (g : UInt8 → Prop) : ∀ R : List UInt8, (∀ c ∈ R, g c) ∨ ∃ (i : Nat) (x : UInt8), R[i]? = some x ∧ ¬ g x ∧ ∀ j : Nat, j < i → ∃ y, R[j]? = some y ∧ g y
  | [] => Or.inl (fun c hc => by cases hc)
  | c :: r => by
    by_cases hc : g c
    · rcases first_bad g r with h | ⟨i, x, h1, h2, h3⟩
      · left
        intro d hd
        rcases List.mem_cons.1 hd with rfl | hd
        · exact hc
        · exact h d hd
      · right
        refine ⟨i + 1, x, by simpa using h1, h2, fun j hj => ?_⟩
        cases j with
        | zero => exact ⟨c, rfl, hc⟩
        | succ j => simpa using h3 j (by omega)
    · right
      exact ⟨0, c, rfl, hc, fun j hj => by omega⟩
theorem ext_emptyD (T : ByteArray) (j : Nat) : T.extract j j = ⟨#[]⟩ := by
  apply ByteArray.ext
  simp
theorem ext_someD (T : ByteArray) (j k : Nat) (h : j < k) (hk : k ≤ T.size) : (T.extract j k).toList.isEmpty = false := by
  apply Rd.empT
  have : (T.extract j k).size = k - j := by
    rw [ByteArray.size_extract]; omega
  omega
theorem dv_isD {c : UInt8} : Rd.dv c < 10 ↔ isD c = true := by
  rw [Rd.dv_dw _ _ (by decide), ← dgb_ten]
  unfold dgb
  simp
/-- the program's ReadInt at base 10 of a text that begins with a digit -/
theorem read10 (T : ByteArray) (D : List UInt8) (hT : T.data.toList = D) (c : UInt8) (r : List UInt8) (hD : D = c :: r) (hc : isD c = true) (hlen : T.size ≤ 1200) (te : TypeId) (pe : Value) (w : World) (hv : w.cell? ⟨7, 0, none⟩ = some (.iface te pe)) :
    Calls Tryd.prog 80 #[.string T, .int .i64 10] w fun e w' => e = .returned (Rd.whole (Rd.ansT 10 false D)) ∧ Rd.Kept w w' := by
  have hd := digit_nat hc
  have hsz : T.size = D.length := by rw [← hT]; simp
  have hx0 : T.data.toList[0]? = some c := by rw [hT, hD]; rfl
  have H19 : ∀ {w0 : World} {A B : Nat} (w : World), Rd.Sc w0 A B T ((0 : Nat) : Int) w → Calls Tryd.prog 79 #[.pointer (some ⟨B, 0, none⟩)] w fun e w' => (∃ z, e = .returned (.bool z)) ∧ Rd.Sc w0 A B T ((0 : Nat) : Int) w' :=
    fun w h => Rd.sign_run hlen 0 (Or.inr (Or.inr (Or.inr ⟨c, hx0, by omega, by omega, rfl⟩))) w h
  rcases first_bad (fun c => Rd.dv c < 10) D with hall | ⟨i, x, h1, h2, h3⟩
  · have H20 : ∀ {w0 : World} {A B : Nat} (w : World), Rd.Sc w0 A B T ((0 : Nat) : Int) w → Calls Tryd.prog 77 #[.pointer (some ⟨B, 0, none⟩), .int .i64 ((10 : Nat) : Int)] w fun e w' => e = .returned (.string (T.extract 0 T.size)) ∧ Rd.Sc w0 A B T (T.size : Int) w' := by
      intro w0 A B w h
      refine Rd.digits_run 10 (by decide) hlen 0 T.size (Nat.zero_le _) (Nat.le_refl _) (fun m hm1 hm2 => ?_) (Or.inl rfl) w h
      have hm3 : m < T.data.toList.length := by rw [hT]; omega
      refine ⟨T.data.toList[m], List.getElem?_eq_getElem hm3, ?_⟩
      rw [← Rd.dv_dw _ 10 (by decide)]
      apply hall
      rw [← hT]
      exact List.getElem_mem hm3
    have hpos : 0 < D.length := by rw [hD]; simp
    exact Rd.impl_read_good 10 (by decide) (by decide) T hlen 0 T.size _ H19 H20 (ext_someD T 0 T.size (by omega) (Nat.le_refl _)) rfl _ (.iface te pe)
        (fun W hW => Rd.parse22 10 T _ (fun w => Rd.int_other 10 rfl (by decide) T T D D hT (by omega) hT rfl c r hD (by omega) (by omega) hall hpos w) (fun w => lite_clone T w (by omega)) te pe W hW) w hv
  · have hlt : i < T.size := by have := (List.getElem?_eq_some_iff.1 h1).1; omega
    have hbad : Rd.ansT 10 false D = (2, 0) := Rd.ans_bad 10 false _ x (List.mem_iff_getElem?.2 ⟨i, h1⟩) h2
    rw [hbad]
    have H20 : ∀ {w0 : World} {A B : Nat} (w : World), Rd.Sc w0 A B T ((0 : Nat) : Int) w → Calls Tryd.prog 77 #[.pointer (some ⟨B, 0, none⟩), .int .i64 ((10 : Nat) : Int)] w fun e w' => e = .returned (.string (T.extract 0 i)) ∧ Rd.Sc w0 A B T (i : Int) w' := by
      intro w0 A B w h
      refine Rd.digits_run 10 (by decide) hlen 0 i (by omega) (by omega) (fun m hm1 hm2 => ?_) (Or.inr ⟨x, by rw [hT]; exact h1, by rw [← Rd.dv_dw _ 10 (by decide)]; exact h2⟩) w h
      obtain ⟨y, hy1, hy2⟩ := h3 m hm2
      exact ⟨y, by rw [hT]; exact hy1, by rw [← Rd.dv_dw _ 10 (by decide)]; exact hy2⟩
    by_cases hi : i = 0
    · subst hi
      exact Rd.impl_read_empty 10 (by decide) (by decide) T hlen 0 0 _ H19 H20 (ext_emptyD T 0) w
    · exact Rd.impl_read_bad 10 (by decide) (by decide) T hlen 0 i _ H19 H20 (ext_someD T 0 i (by omega) (by omega)) (by omega) w
theorem dv_digit {c : UInt8} (h : isD c = true) : Rd.dv c = c.toNat - 48 := by
  have := digit_nat h
  unfold Rd.dv
  rw [if_pos this]
theorem nm_rd : ∀ (D : List UInt8) (acc v : Nat), acc < 9223372036854775808 → (∀ c ∈ D, isD c = true) → nm acc D = some v → Rd.rd 10 acc D = some v
  | [], acc, v, h, _, e => e
  | c :: r, acc, v, h, hd, e => by
    unfold nm at e
    split at e
    · cases e
    · rename_i g
      have hc := digit_nat (hd c (List.mem_cons_self ..))
      have hlt : acc * 10 + (c.toNat - 48) < 9223372036854775808 := by omega
      unfold Rd.rd
      rw [dv_digit (hd c (List.mem_cons_self ..)), if_pos (by omega)]
      exact nm_rd r _ v hlt (fun x hx => hd x (List.mem_cons_of_mem _ hx)) e
theorem rd_ge : ∀ (D : List UInt8) (acc v : Nat), Rd.rd 10 acc D = some v → acc ≤ v
  | [], acc, v, e => by rw [Option.some.inj e]; exact Nat.le_refl _
  | c :: r, acc, v, e => by
    unfold Rd.rd at e
    split at e
    · have := rd_ge r _ v e; omega
    · cases e
theorem nm_no : ∀ (D : List UInt8) (acc : Nat), acc < 9223372036854775808 → (∀ c ∈ D, isD c = true) → nm acc D = none → ∀ v, Rd.rd 10 acc D = some v → 9223372036854775808 ≤ v
  | [], acc, h, _, e => by cases e
  | c :: r, acc, h, hd, e => by
    intro v hv
    have hc := digit_nat (hd c (List.mem_cons_self ..))
    unfold Rd.rd at hv
    rw [dv_digit (hd c (List.mem_cons_self ..))] at hv
    unfold nm at e
    split at e
    · rename_i g
      split at hv
      · have := rd_ge r _ v hv; omega
      · cases hv
    · rename_i g
      rw [if_pos (by omega)] at hv
      exact nm_no r _ (by omega) (fun x hx => hd x (List.mem_cons_of_mem _ hx)) e v hv
theorem nm_len (c : UInt8) (r : List UInt8) (v : Nat) (hd : ∀ x ∈ c :: r, isD x = true) (h : c ≠ 48 ∨ r = []) (e : nm 0 (c :: r) = some v) : (c :: r).length ≤ 1200 := by
  rcases h with h | h
  · have hc := digit_nat (hd c (List.mem_cons_self ..))
    have h1 : 1 ≤ c.toNat - 48 := by
      have : c.toNat ≠ 48 := fun g => h (UInt8.toNat_inj.1 (show c.toNat = 48 from g))
      omega
    unfold nm at e
    rw [if_neg (by omega), Nat.zero_mul, Nat.zero_add] at e
    have := nm_lt r _ v (by omega) (fun x hx => hd x (List.mem_cons_of_mem _ hx)) e
    rcases Nat.lt_or_ge r.length 100 with g | g
    · simp; omega
    · exfalso
      have hp : (10 : Nat) ^ 100 ≤ 10 ^ r.length := Nat.pow_le_pow_right (by decide) g
      have h2 : 10 ^ r.length ≤ (c.toNat - 48) * 10 ^ r.length := Nat.le_mul_of_pos_left _ (by omega)
      have h3 : (9223372036854775808 : Nat) ≤ 10 ^ 100 := by decide
      omega
  · subst h; simp
theorem dg_len {L : List UInt8} {p to : Nat} (h : to ≤ L.length) : (dg L p to).length = to - p := by unfold dg; rw [List.length_take, List.length_drop]; omega
theorem dg_get {L : List UInt8} {p to i : Nat} (h : to ≤ L.length) (hi : p + i < to) : (dg L p to)[i]? = some (lk L (p + i)) := by
  unfold dg
  rw [List.getElem?_take, if_pos (by omega), List.getElem?_drop]
  exact lk_at (by omega)
theorem dg_all {L : List UInt8} {p to : Nat} (h : to ≤ L.length) (g : ∀ i, p ≤ i → i < to → isD (lk L i) = true) : ∀ c ∈ dg L p to, isD c = true := by
  intro c hc
  obtain ⟨i, hi, e⟩ := List.getElem_of_mem hc
  rw [dg_len h] at hi
  have := dg_get (L := L) (p := p) (to := to) (i := i) h (by omega)
  rw [List.getElem?_eq_getElem (by rw [dg_len h]; omega), e] at this
  rw [Option.some.inj this]
  exact g _ (by omega) (by omega)
/-- what ReadInt makes of a decimal number's text -/
theorem read_num (T : ByteArray) (L : List UInt8) (hT : T.data.toList = L) (hlen : L.length ≤ 65536) (p : Nat) (hd : isD (lk L p) = true) {kd : Int} {to : Nat} {nu : Int} {tx : ByteArray} (hn : Num T L p kd to nu tx) (hk : kd ≠ 0) :
    ∃ q : Int × Int, (∀ (w : World) (te : TypeId) (pe : Value), w.cell? ⟨7, 0, none⟩ = some (.iface te pe) → Calls Tryd.prog 80 #[.string (T.extract p to), .int .i64 10] w fun e w' => e = .returned (Rd.whole q) ∧ Rd.Kept w w') ∧
      ((kd = 2 ∧ q = (0, nu) ∧ tx = ⟨#[]⟩) ∨ (kd = 3 ∧ q.1 ≠ 0 ∧ nu = 0 ∧ tx = T.extract p to)) := by
  have hp := isD_lt hd
  have hle : p < to ∧ to ≤ L.length := by
    cases hn with
    | bad _ nb => exact absurd rfl hk
    | flt _ nb => exact nb.le hp
    | int _ v nb hv => exact nb.le hp
    | big _ nb hv => exact nb.le hp
  have hS : (T.extract p to).data.toList = dg L p to := by rw [ext_list, hT]; rfl
  have hSz : (T.extract p to).size = to - p := by
    have hTs : T.size = L.length := by rw [← hT]; simp
    rw [ByteArray.size_extract]; omega
  have hcons : dg L p to = lk L p :: dg L (p + 1) to := dg_step (lk_at hp) hle.1
  by_cases hbig : 1200 < to - p
  · refine ⟨(1, 0), fun w te pe _ => Rd.impl_read_none 10 (T.extract p to) (Or.inr (Or.inr (by omega))) w, ?_⟩
    right
    cases hn with
    | bad _ nb => exact absurd rfl hk
    | flt _ nb => exact ⟨rfl, by decide, rfl, rfl⟩
    | int _ v nb hv =>
      exfalso
      have hall := dg_all hle.2 (nb.digits hd)
      rw [hcons] at hall hv
      have := nm_len _ _ v hall (by
        by_cases h48 : lk L p = 48
        · right
          cases nb with
          | plain g1 g2 =>
            unfold q1
            rw [if_pos h48]
            exact dg_end L (p + 1)
        · exact .inl h48) hv
      rw [← hcons, dg_len hle.2] at this
      omega
    | big _ nb hv => exact ⟨rfl, by decide, rfl, rfl⟩
  · refine ⟨Rd.ansT 10 false (dg L p to), fun w te pe hv => read10 _ _ hS _ _ hcons hd (by omega) te pe w hv, ?_⟩
    have hpos : 0 < (dg L p to).length := by rw [dg_len hle.2]; omega
    cases hn with
    | bad _ nb => exact absurd rfl hk
    | flt _ nb =>
      right
      have key : ∃ i, p ≤ i ∧ i < to ∧ isD (lk L i) = false := by
        have h1 := q1_le hp
        have h2 := q2_le (L := L) h1.2
        cases nb with
        | frac g1 g2 =>
          refine ⟨q1 L p, by omega, ?_, ?_⟩
          · unfold q2
            rw [if_pos g1]
            have := en_ge isD L (q1 L p + 1)
            omega
          · unfold frc at g1
            simp at g1
            rw [g1.1]; rfl
        | exp g1 g2 =>
          have hb : q2 L (q1 L p) < L.length := lk_lt (by decide) g1
          have h3 := sgn_le (L := L) (k := q2 L (q1 L p) + 1) (by omega)
          have h4 := en_ge isD L (sgn L (q2 L (q1 L p) + 1))
          refine ⟨q2 L (q1 L p), by omega, by omega, ?_⟩
          rw [g1]; rfl
      obtain ⟨i, k1, k2, k3⟩ := key
      have hm : lk L i ∈ dg L p to := by
        have := dg_get (L := L) (p := p) (to := to) (i := i - p) hle.2 (by omega)
        rw [show p + (i - p) = i by omega] at this
        exact List.mem_iff_getElem?.2 ⟨_, this⟩
      rw [Rd.ans_bad 10 false _ _ hm (fun g => by rw [dv_isD.1 g] at k3; cases k3)]
      exact ⟨rfl, by decide, rfl, rfl⟩
    | int _ v nb hv =>
      left
      have hall := dg_all hle.2 (nb.digits hd)
      have hlt := (nm_lt _ 0 v (by decide) hall hv).2
      rw [Rd.ans_some 10 false _ (fun c hc => dv_isD.2 (hall c hc)) hpos v (nm_rd _ 0 v (by decide) hall hv), if_neg (by omega)]
      exact ⟨rfl, rfl, rfl⟩
    | big _ nb hv =>
      right
      have hall := dg_all hle.2 (nb.digits hd)
      refine ⟨rfl, ?_, rfl, rfl⟩
      cases hr : Rd.rd 10 0 (dg L p to) with
      | none => rw [Rd.ans_none 10 false _ (fun c hc => dv_isD.2 (hall c hc)) hpos hr]; decide
      | some v =>
        have := nm_no _ 0 (by decide) hall hv v hr
        rw [Rd.ans_some 10 false _ (fun c hc => dv_isD.2 (hall c hc)) hpos v hr, if_pos ((Nat.lt_or_eq_of_le this).imp id (fun g => ⟨g.symm, rfl⟩))]
        decide
end Go.Proofs.YtogenhnonjkanaaDoor
