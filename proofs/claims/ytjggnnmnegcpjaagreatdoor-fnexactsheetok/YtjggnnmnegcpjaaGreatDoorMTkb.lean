import Derived.Test.YtjggnnmnegcpjaaGreatDoorMSdj
import Derived.Test.YtjggnnmnegcpjaaGreatDoorMSbl
import Derived.Deep.RegionHeldLaw
import Derived.Test.YtjggnnmnegcpjaaGreatDoorMSkm
import Derived.Shelf.Strings.Builder1
import Derived.BigRegion
import Derived.Test.YtjggnnmnegcpjaaGreatDoorMSkxd
import Derived.Test.YtjggnnmnegcpjaaGreatDoorMSkf
namespace Go.Proofs.YtjggnnmnegcpjaaGreatDoor
open Go.ChangeShapes Go.WideShapes Go.ChangeAt Go.RowKit
set_option linter.unusedVariables false
set_option maxRecDepth 100000 in
set_option maxHeartbeats 4000000 in
theorem name_ok (T : ByteArray) (L : List UInt8) (hT : T.data.toList = L) (hlen : L.length ≤ 40) (t : Tk) (ht : 0 < L.length → ∀ w, Calls Tryz.prog 95 #[.string T, .int .i64 0] w (NumP w t.kind 0 t.to t.num t.text)) (z : Bool) (hz : (0 < L.length ∧ isL (lk L 0) = true ∧ t.kind = 1 ∧ t.to = L.length ∧ z = true) ∨ (¬ (0 < L.length ∧ isL (lk L 0) = true ∧ t.kind = 1 ∧ t.to = L.length) ∧ z = false)) (w : World) :
    Calls Tryz.prog 122 #[.string T] w fun e w' => e = .returned (.bool z) ∧ Below w.heap.size w w' := by
  have hs : T.size = L.length := by rw [← hT]; simp
  by_cases h0 : L.length = 0
  · have hz0 : z = false := by
      rcases hz with h | h
      · omega
      · exact h.2
    have hT0 : (T.size : Int) = 0 := by omega
    subst hz0
    clear ht hz hT hlen hs h0
    go_enter Tryz.func122, Tryz.ntmps122
    go_wp2_with fail
    go_ret
    exact ⟨rfl, Below.refl _ _⟩
  · have hT0 : ((T.size : Int) == 0) = false := by rw [beq_eq_false_iff_ne]; omega
    have hTe : ¬ T = ByteArray.empty := fun g => by rw [g] at hs; exact h0 (by rw [← hs]; rfl)
    have hT40 : ¬ (40 : Int) < (T.size : Int) := by omega
    have hix : ∀ W : World, (Instr.index 9 (.string T) (.int .i64 0)).run Tryz.prog W = .ok (.int .u8 ((lk L 0).toNat : Int)) W := fun W => ix T L hT 0 _ (lk_at (show 0 < L.length by omega)) W
    have hp := spec_isL (lk L 0)
    cases hP : isL (lk L 0) with
    | false =>
      have hz0 : z = false := by
        rcases hz with h | h
        · rw [hP] at h; exact absurd h.2.1 (by decide)
        · exact h.2
      subst hz0
      rw [hP] at hp
      clear ht hz hT hlen hs h0 hP
      generalize ((lk L 0).toNat : Int) = x0 at *
      go_enter Tryz.func122, Tryz.ntmps122
      go_wp2_with fail
      refine (hp _).mono ?_
      rintro e w1 ⟨rfl, rfl⟩
      go_wp2_with fail
      go_ret
      exact ⟨rfl, Below.refl _ _⟩
    | true =>
      rw [hP] at hp
      have hrd := ht (by omega) w
      have HZ : Hid ((t.kind = 1 ∧ t.to = L.length ∧ z = true) ∨ (¬ (t.kind = 1 ∧ t.to = L.length) ∧ z = false)) := by
        rcases hz with h | h
        · exact .inl ⟨h.2.2.1, h.2.2.2.1, h.2.2.2.2⟩
        · exact .inr ⟨fun g => h.1 ⟨by omega, hP, g⟩, h.2⟩
      have HS : Hid (T.size = L.length) := hs
      clear ht hz hT hlen h0 hP hs
      generalize ((lk L 0).toNat : Int) = x0 at *
      go_enter Tryz.func122, Tryz.ntmps122
      go_wp2_with fail
      refine (hp _).mono ?_
      rintro e w1 ⟨rfl, hw1⟩
      rw [hw1]
      clear hp hw1
      go_wp2_with fail
      refine hrd.mono ?_
      rintro e w2 ⟨hb2, hy, hn⟩
      have HB : Hid (∀ x : Obj, Below w.heap.size w (w2.alloc x)) := (fun x => hb2.alloc hb2.size _ : ∀ x : Obj, Below w.heap.size w (w2.alloc x))
      by_cases hk0 : t.kind = 0
      · obtain ⟨a, b, c, d, m, tt, he⟩ := hn hk0
        subst he
        have hz0 : z = false := by
          rcases (show _ ∨ _ from HZ) with h | h
          · omega
          · exact h.2
        subst hz0
        have hto : ¬ (t.to : Int) < 0 := by omega
        clear hrd hb2 hy hn hk0 HZ
        generalize (t.to : Int) = tz at *
        unfold tokV
        go_wp2_with fail
        go_ret
        exact ⟨rfl, (show ∀ x : Obj, Below w.heap.size w (w2.alloc x) from HB) _⟩
      · have he := hy hk0
        subst he
        clear hrd hb2 hy hn hk0
        by_cases h1 : t.kind = 1
        · by_cases h2 : t.to = L.length
          · have hz1 : z = true := by
              rcases (show _ ∨ _ from HZ) with h | h
              · exact h.2.2
              · exact absurd ⟨h1, h2⟩ h.1
            subst hz1
            rw [h1, show (t.to : Int) = (T.size : Int) by rw [h2, show T.size = L.length from HS]]
            clear HZ h1 h2 HS
            unfold tokV
            go_wp2_with fail
            go_ret
            exact ⟨rfl, (show ∀ x : Obj, Below w.heap.size w (w2.alloc x) from HB) _⟩
          · have hz1 : z = false := by
              rcases (show _ ∨ _ from HZ) with h | h
              · exact absurd h.2.1 h2
              · exact h.2
            subst hz1
            have h3 : ((t.to : Int) == (T.size : Int)) = false := by rw [beq_eq_false_iff_ne, show T.size = L.length from HS]; omega
            rw [h1]
            clear HZ h1 h2
            generalize (t.to : Int) = tz at *
            unfold tokV
            go_wp2_with fail
            go_ret
            exact ⟨rfl, (show ∀ x : Obj, Below w.heap.size w (w2.alloc x) from HB) _⟩
        · have hz1 : z = false := by
            rcases (show _ ∨ _ from HZ) with h | h
            · exact absurd h.1 h1
            · exact h.2
          subst hz1
          have h3 : (t.kind == 1) = false := by simpa using h1
          clear HZ h1
          generalize t.kind = kk at *
          generalize (t.to : Int) = tz at *
          unfold tokV
          go_wp2_with fail
          go_ret
          exact ⟨rfl, (show ∀ x : Obj, Below w.heap.size w (w2.alloc x) from HB) _⟩
set_option maxRecDepth 100000 in
set_option maxHeartbeats 4000000 in
theorem name_ok_big (T : ByteArray) (h : (40 : Int) < (T.size : Int)) (w : World) : Calls Tryz.prog 122 #[.string T] w fun e w' => e = .returned (.bool false) ∧ Below w.heap.size w w' := by
  have h0 : ((T.size : Int) == 0) = false := by rw [beq_eq_false_iff_ne]; omega
  have hTe : ¬ T = ByteArray.empty := fun g => by rw [g] at h; exact absurd h (by decide)
  go_enter Tryz.func122, Tryz.ntmps122
  go_wp2_with fail
  go_ret
  exact ⟨rfl, Below.refl _ _⟩
set_option maxRecDepth 100000 in
set_option maxHeartbeats 4000000 in
theorem flt_ok (T : ByteArray) (L : List UInt8) (hT : T.data.toList = L) (hlen : L.length ≤ 40) (t : Tk) (ht : 0 < L.length → ∀ w, Calls Tryz.prog 95 #[.string T, .int .i64 0] w (NumP w t.kind 0 t.to t.num t.text)) (z : Bool) (hz : (0 < L.length ∧ isD (lk L 0) = true ∧ t.kind = 3 ∧ t.to = L.length ∧ z = true) ∨ (¬ (0 < L.length ∧ isD (lk L 0) = true ∧ t.kind = 3 ∧ t.to = L.length) ∧ z = false)) (w : World) :
    Calls Tryz.prog 121 #[.string T] w fun e w' => e = .returned (.bool z) ∧ Below w.heap.size w w' := by
  have hs : T.size = L.length := by rw [← hT]; simp
  by_cases h0 : L.length = 0
  · have hz0 : z = false := by
      rcases hz with h | h
      · omega
      · exact h.2
    have hT0 : (T.size : Int) = 0 := by omega
    subst hz0
    clear ht hz hT hlen hs h0
    go_enter Tryz.func121, Tryz.ntmps121
    go_wp2_with fail
    go_ret
    exact ⟨rfl, Below.refl _ _⟩
  · have hT0 : ((T.size : Int) == 0) = false := by rw [beq_eq_false_iff_ne]; omega
    have hTe : ¬ T = ByteArray.empty := fun g => by rw [g] at hs; exact h0 (by rw [← hs]; rfl)
    have hT40 : ¬ (40 : Int) < (T.size : Int) := by omega
    have hix : ∀ W : World, (Instr.index 9 (.string T) (.int .i64 0)).run Tryz.prog W = .ok (.int .u8 ((lk L 0).toNat : Int)) W := fun W => ix T L hT 0 _ (lk_at (show 0 < L.length by omega)) W
    have hp := spec_isD (lk L 0)
    cases hP : isD (lk L 0) with
    | false =>
      have hz0 : z = false := by
        rcases hz with h | h
        · rw [hP] at h; exact absurd h.2.1 (by decide)
        · exact h.2
      subst hz0
      rw [hP] at hp
      clear ht hz hT hlen hs h0 hP
      generalize ((lk L 0).toNat : Int) = x0 at *
      go_enter Tryz.func121, Tryz.ntmps121
      go_wp2_with fail
      refine (hp _).mono ?_
      rintro e w1 ⟨rfl, rfl⟩
      go_wp2_with fail
      go_ret
      exact ⟨rfl, Below.refl _ _⟩
    | true =>
      rw [hP] at hp
      have hrd := ht (by omega) w
      have HZ : Hid ((t.kind = 3 ∧ t.to = L.length ∧ z = true) ∨ (¬ (t.kind = 3 ∧ t.to = L.length) ∧ z = false)) := by
        rcases hz with h | h
        · exact .inl ⟨h.2.2.1, h.2.2.2.1, h.2.2.2.2⟩
        · exact .inr ⟨fun g => h.1 ⟨by omega, hP, g⟩, h.2⟩
      have HS : Hid (T.size = L.length) := hs
      clear ht hz hT hlen h0 hP hs
      generalize ((lk L 0).toNat : Int) = x0 at *
      go_enter Tryz.func121, Tryz.ntmps121
      go_wp2_with fail
      refine (hp _).mono ?_
      rintro e w1 ⟨rfl, hw1⟩
      rw [hw1]
      clear hp hw1
      go_wp2_with fail
      refine hrd.mono ?_
      rintro e w2 ⟨hb2, hy, hn⟩
      have HB : Hid (∀ x : Obj, Below w.heap.size w (w2.alloc x)) := (fun x => hb2.alloc hb2.size _ : ∀ x : Obj, Below w.heap.size w (w2.alloc x))
      by_cases hk0 : t.kind = 0
      · obtain ⟨a, b, c, d, m, tt, he⟩ := hn hk0
        subst he
        have hz0 : z = false := by
          rcases (show _ ∨ _ from HZ) with h | h
          · omega
          · exact h.2
        subst hz0
        have hto : ¬ (t.to : Int) < 0 := by omega
        clear hrd hb2 hy hn hk0 HZ
        generalize (t.to : Int) = tz at *
        unfold tokV
        go_wp2_with fail
        go_ret
        exact ⟨rfl, (show ∀ x : Obj, Below w.heap.size w (w2.alloc x) from HB) _⟩
      · have he := hy hk0
        subst he
        clear hrd hb2 hy hn hk0
        by_cases h1 : t.kind = 3
        · by_cases h2 : t.to = L.length
          · have hz1 : z = true := by
              rcases (show _ ∨ _ from HZ) with h | h
              · exact h.2.2
              · exact absurd ⟨h1, h2⟩ h.1
            subst hz1
            rw [h1, show (t.to : Int) = (T.size : Int) by rw [h2, show T.size = L.length from HS]]
            clear HZ h1 h2 HS
            unfold tokV
            go_wp2_with fail
            go_ret
            exact ⟨rfl, (show ∀ x : Obj, Below w.heap.size w (w2.alloc x) from HB) _⟩
          · have hz1 : z = false := by
              rcases (show _ ∨ _ from HZ) with h | h
              · exact absurd h.2.1 h2
              · exact h.2
            subst hz1
            have h3 : ((t.to : Int) == (T.size : Int)) = false := by rw [beq_eq_false_iff_ne, show T.size = L.length from HS]; omega
            rw [h1]
            clear HZ h1 h2
            generalize (t.to : Int) = tz at *
            unfold tokV
            go_wp2_with fail
            go_ret
            exact ⟨rfl, (show ∀ x : Obj, Below w.heap.size w (w2.alloc x) from HB) _⟩
        · have hz1 : z = false := by
            rcases (show _ ∨ _ from HZ) with h | h
            · exact absurd h.1 h1
            · exact h.2
          subst hz1
          have h3 : (t.kind == 3) = false := by simpa using h1
          clear HZ h1
          generalize t.kind = kk at *
          generalize (t.to : Int) = tz at *
          unfold tokV
          go_wp2_with fail
          go_ret
          exact ⟨rfl, (show ∀ x : Obj, Below w.heap.size w (w2.alloc x) from HB) _⟩
set_option maxRecDepth 100000 in
set_option maxHeartbeats 4000000 in
theorem flt_ok_big (T : ByteArray) (h : (40 : Int) < (T.size : Int)) (w : World) : Calls Tryz.prog 121 #[.string T] w fun e w' => e = .returned (.bool false) ∧ Below w.heap.size w w' := by
  have h0 : ((T.size : Int) == 0) = false := by rw [beq_eq_false_iff_ne]; omega
  have hTe : ¬ T = ByteArray.empty := fun g => by rw [g] at h; exact absurd h (by decide)
  go_enter Tryz.func121, Tryz.ntmps121
  go_wp2_with fail
  go_ret
  exact ⟨rfl, Below.refl _ _⟩
end Go.Proofs.YtjggnnmnegcpjaaGreatDoor
namespace Go.Proofs.YtjggnnmnegcpjaaGreatDoor
open Go.ChangeShapes Go.WideShapes Go.ChangeAt Go.RowKit
set_option linter.unusedVariables false
theorem ssv_ne (X : List UInt8) : ssv X ≠ 1 ∧ ssv X ≠ 3 := by
  unfold ssv
  split
  · exact ⟨by omega, by omega⟩
  · split
    · exact ⟨by omega, by omega⟩
    · exact ⟨by decide, by decide⟩
theorem Tko.name {T : ByteArray} {L : List UInt8} {p : Nat} {t : Tk} (h : Tko T L p t) (hk : t.kind = 1) : isL (lk L p) = true ∧ t.text = T.extract p t.to := by
  cases h with
  | nl _ => simp at hk
  | word m hL hm =>
    refine ⟨hL, ?_⟩
    have h22 : ¬ m < 22 := fun g => by
      have hk2 : wkI m = 1 := hk
      unfold wkI at hk2
      rw [if_pos g] at hk2
      omega
    show wkT m _ = _
    unfold wkT
    rw [if_neg h22]
  | num kd tn nu tx hD _ hn =>
    exfalso
    have hk2 : kd = 1 := hk
    cases hn <;> omega
  | hex ok tn n _ h => cases ok <;> simp at hk
  | str ok tn t _ h => cases ok <;> simp at hk
  | sign m kd tn _ _ _ _ hm hk2 =>
    exfalso
    have hk3 : kd = 1 := hk
    rcases hk2 with ⟨_, h, _⟩ | ⟨_, h, _⟩
    · exact (ssv_ne _).1 (h.symm.trans hk3)
    · omega
theorem Tko.flt {T : ByteArray} {L : List UInt8} {p : Nat} {t : Tk} (h : Tko T L p t) (hk : t.kind = 3) : isD (lk L p) = true ∧ t.text = T.extract p t.to := by
  cases h with
  | nl _ => simp at hk
  | word m hL hm =>
    exfalso
    have hk2 : wkI m = 3 := hk
    unfold wkI at hk2
    split at hk2 <;> omega
  | num kd tn nu tx hD _ hn =>
    have hk2 : kd = 3 := hk
    refine ⟨hD, ?_⟩
    cases hn with
    | bad _ _ => omega
    | flt _ _ => rfl
    | int _ v _ _ => omega
    | big _ _ _ => rfl
  | hex ok tn n _ h => cases ok <;> simp at hk
  | str ok tn t _ h => cases ok <;> simp at hk
  | sign m kd tn _ _ _ _ hm hk2 =>
    exfalso
    have hk3 : kd = 3 := hk
    rcases hk2 with ⟨_, h, _⟩ | ⟨_, h, _⟩
    · exact (ssv_ne _).2 (h.symm.trans hk3)
    · omega
theorem extract_whole {T : ByteArray} {p q : Nat} (h : T.extract p q = T) (h1 : p < q) (h2 : q ≤ T.size) : p = 0 ∧ q = T.size := by
  have := congrArg ByteArray.size h
  rw [ByteArray.size_extract] at this
  omega
theorem extract_self (T : ByteArray) : T.extract 0 T.size = T := by
  apply ByteArray.ext
  simp
/-- a text that is one token of a kind, and no more -/
theorem one_tok {T : ByteArray} {L : List UInt8} (hT : T.data.toList = L) {tk : Nat → Tk} (htk : ∀ p, p < L.length → Tko T L p (tk p)) {xs : List (Nat × Int)} {e : Nat} {st : Bool} (hrun : Run L tk (bl L 0) 1 xs e st) (kd : Int) (pr : UInt8 → Bool) (hk0 : kd ≠ 0)
    (hA : ∀ p t, Tko T L p t → t.kind = kd → pr (lk L p) = true ∧ t.text = T.extract p t.to) (hb : ∀ c, pr c = true → ¬ (c.toNat = 32 ∨ c.toNat = 9 ∨ c.toNat = 13) ∧ c.toNat ≠ 45) (n : Nat) (hn : n = if st = true then 0 else xs.length) :
    (n = 1 ∧ (tvs tk xs 0).k = kd ∧ (tvs tk xs 0).x = T) ↔ (0 < L.length ∧ pr (lk L 0) = true ∧ (tk 0).kind = kd ∧ (tk 0).to = L.length) := by
  have hs : T.size = L.length := by rw [← hT]; simp
  have ok := tko_ok htk
  constructor
  · rintro ⟨h1, h2, h3⟩
    have hst : st = false := by
      cases st with
      | false => rfl
      | true => rw [if_pos rfl] at hn; omega
    subst hst
    rw [if_neg (by decide)] at hn
    rcases hrun.inv with ⟨r1, _⟩ | ⟨r1, _⟩ | ⟨ts, r1, r2, r3, r4⟩
    · rw [r1] at hn; simp at hn; omega
    · rw [r1] at hn; simp at hn; omega
    · rw [r1] at h2 h3
      have h2' : (tk (bl L 0)).kind = kd := h2
      have h3' : (tk (bl L 0)).text = T := h3
      obtain ⟨a1, a2⟩ := hA _ _ (htk _ r2) h2'
      have a3 := ok.lt _ r2 r3
      have a4 := ok.le _ r2
      obtain ⟨b1, b2⟩ := extract_whole (a2.symm.trans h3') a3 (by omega)
      rw [b1] at a1 h2' b2 r2
      exact ⟨r2, a1, h2', by omega⟩
  · rintro ⟨h1, h2, h3, h4⟩
    obtain ⟨g1, g2⟩ := hb _ h2
    have hb0 : bl L 0 = 0 := bl_other (lk_at h1) g1 (fun g => g2 g.1)
    rw [hb0] at hrun
    rcases hrun.inv with ⟨_, r2, _⟩ | ⟨_, _, r3, _⟩ | ⟨ts, r1, r2, r3, r4⟩
    · omega
    · omega
    · rw [h4, bl_end (Nat.le_refl _)] at r4
      rcases r4.inv with ⟨q1, q2, q3, q4⟩ | ⟨_, q2, _⟩ | ⟨_, _, q2, _⟩
      · subst q4
        rw [if_neg (by decide), r1, q1] at hn
        rw [r1, q1]
        refine ⟨hn, h3, ?_⟩
        show (tk 0).text = T
        rw [(hA _ _ (htk 0 h1) h3).2, h4, ← hs]
        exact extract_self T
      · omega
      · omega
theorem isL_far (c : UInt8) (h : isL c = true) : ¬ (c.toNat = 32 ∨ c.toNat = 9 ∨ c.toNat = 13) ∧ c.toNat ≠ 45 := by
  unfold isL at h
  simp at h
  omega
theorem isD_far (c : UInt8) (h : isD c = true) : ¬ (c.toNat = 32 ∨ c.toNat = 9 ∨ c.toNat = 13) ∧ c.toNat ≠ 45 := by
  have := digit_nat h
  omega
/-- what a name or a float is written as, by both sides -/
def TxtC (sf : Nat) (kd : Int) (T R : ByteArray) : Prop := (∃ z : Bool, (∀ w, Calls Tryz.prog sf #[.string T] w fun e w' => e = .returned (.bool z) ∧ Below w.heap.size w w') ∧ R = (if z = true then T else ⟨#[]⟩) ∧ (z = true → 0 < T.size)) ∧
  ∀ (f t l nn : Int) (w : World), Gd w → Calls Tryz.prog 263 #[.agg #[.int .i64 kd, .int .i64 f, .int .i64 t, .int .i64 l, .int .i64 nn, .string T], .int .i64 40] w fun e w' => e = .returned (.string R) ∧ Rd.Kept w w'
theorem scan_c (T : ByteArray) (L : List UInt8) (hT : T.data.toList = L) (hlen : L.length ≤ 40) {tk : Nat → Tk} (htk : ∀ p, p < L.length → Tko T L p (tk p)) {xs : List (Nat × Int)} {e : Nat} {st : Bool} (hrun : Run L tk (bl L 0) 1 xs e st) :
    ∃ (o : Bool) (a : Int), ∀ w, Gd w → Calls Tryz.prog 294 #[.string T] w fun en w' => Rd.Kept w w' ∧ ∃ v, en = .returned (.agg #[.bool o, .int .i64 a, v]) ∧ Own w' w.heap.size v (if st = true then 0 else xs.length) (tvs tk xs) := by
  have hs : T.size = L.length := by rw [← hT]; simp
  have ok := tko_ok htk
  have hxl : xs.length ≤ 65536 := by have := run_len ok hrun (bl_le L 0 (Nat.zero_le _)); omega
  have h6 := fun w (hg : Gd w) => impl_scan T L hT (by omega) tk ok xs e st hrun w hg (fun B hB => tko_impl hT (by omega) hB htk) hxl
  cases st with
  | true => exact ⟨false, e, fun w hg => (h6 w hg).mono fun en w' hh => ⟨hh.1, .slice none 0 0, by obtain ⟨v, hv, _⟩ := hh.2; exact hv, own_nil _ _ _⟩⟩
  | false => exact ⟨true, 0, fun w hg => (h6 w hg).mono fun en w' hh => ⟨hh.1, by obtain ⟨v, hv, ho⟩ := hh.2; exact ⟨v, hv, own_row (ho rfl)⟩⟩⟩
theorem txt_any (sf : Nat) (kd : Int) (pr : UInt8 → Bool) (hk0 : kd ≠ 0) (T : ByteArray) (hb : ∀ c, pr c = true → ¬ (c.toNat = 32 ∨ c.toNat = 9 ∨ c.toNat = 13) ∧ c.toNat ≠ 45)
    (hA : ∀ L p t, Tko T L p t → t.kind = kd → pr (lk L p) = true ∧ t.text = T.extract p t.to)
    (hbig : (40 : Int) < (T.size : Int) → ∀ w, Calls Tryz.prog sf #[.string T] w fun e w' => e = .returned (.bool false) ∧ Below w.heap.size w w')
    (hok : ∀ (L : List UInt8) (hT : T.data.toList = L) (hlen : L.length ≤ 40) (t : Tk) (ht : 0 < L.length → ∀ w, Calls Tryz.prog 95 #[.string T, .int .i64 0] w (NumP w t.kind 0 t.to t.num t.text)) (z : Bool) (hz : (0 < L.length ∧ pr (lk L 0) = true ∧ t.kind = kd ∧ t.to = L.length ∧ z = true) ∨ (¬ (0 < L.length ∧ pr (lk L 0) = true ∧ t.kind = kd ∧ t.to = L.length) ∧ z = false)) (w : World),
      Calls Tryz.prog sf #[.string T] w fun e w' => e = .returned (.bool z) ∧ Below w.heap.size w w') : ∃ R, TxtC sf kd T R := by
  by_cases h40 : (40 : Int) < (T.size : Int)
  · exact ⟨⟨#[]⟩, ⟨false, hbig h40, rfl, fun h => by cases h⟩, fun f t l nn w _ => tok_big T kd f t l nn h40 w⟩
  · obtain ⟨L, hT⟩ : ∃ L, T.data.toList = L := ⟨_, rfl⟩
    have hs : T.size = L.length := by rw [← hT]; simp
    obtain ⟨tk, htk⟩ := tk_any T L
    have ok := tko_ok htk
    obtain ⟨xs, e, st, hrun⟩ := run_any ok L.length (bl L 0) 1 (bl_le L 0 (Nat.zero_le _)) (by omega)
    obtain ⟨o, a, h6⟩ := scan_c T L hT (by omega) htk hrun
    have key := one_tok hT htk hrun kd pr hk0 (fun p t => hA L p t) hb _ rfl
    have hrd : 0 < L.length → ∀ w, Calls Tryz.prog 95 #[.string T, .int .i64 0] w (NumP w (tk 0).kind 0 (tk 0).to (tk 0).num (tk 0).text) := fun h0 w => tko_spec hT (by omega) htk 0 w h0
    by_cases hc : 0 < L.length ∧ pr (lk L 0) = true ∧ (tk 0).kind = kd ∧ (tk 0).to = L.length
    · have hk := key.2 hc
      exact ⟨T, ⟨true, fun w => hok L hT (by omega) (tk 0) hrd true (.inl ⟨hc.1, hc.2.1, hc.2.2.1, hc.2.2.2, rfl⟩) w, rfl, fun _ => by have := hc.1; omega⟩,
        fun f t l nn w hg => impl_tok T kd f t l nn h40 o a _ _ h6 T (.inl ⟨hk.1, hk.2.1, hk.2.2, rfl⟩) w hg⟩
    · exact ⟨⟨#[]⟩, ⟨false, fun w => hok L hT (by omega) (tk 0) hrd false (.inr ⟨hc, rfl⟩) w, rfl, fun h => by cases h⟩,
        fun f t l nn w hg => impl_tok T kd f t l nn h40 o a _ _ h6 ⟨#[]⟩ (.inr ⟨fun h1 h2 h3 => hc (key.1 ⟨h1, h2, h3⟩), rfl⟩) w hg⟩
theorem txt_name (T : ByteArray) : ∃ R, TxtC 122 1 T R :=
  txt_any _ 1 isL (by decide) T isL_far (fun L p t h hk => h.name hk) (fun h w => name_ok_big T h w) (fun L hT hlen t ht z hz w => name_ok T L hT hlen t ht z hz w)
theorem txt_flt (T : ByteArray) : ∃ R, TxtC 121 3 T R :=
  txt_any _ 3 isD (by decide) T isD_far (fun L p t h hk => h.flt hk) (fun h w => flt_ok_big T h w) (fun L hT hlen t ht z hz w => flt_ok T L hT hlen t ht z hz w)
end Go.Proofs.YtjggnnmnegcpjaaGreatDoor
namespace Go.Proofs.YtjggnnmnegcpjaaGreatDoor
open Go.ChangeShapes Go.WideShapes Go.ChangeAt Go.RowKit
set_option linter.unusedVariables false
def FinQ (w wr : World) (L : List UInt8) (k : Nat) (x : UInt8) (v : Value) : Prop :=
  ∀ (m : List UInt8) (o : Obj) (v' : Value) (w1 : World), qel x = m → w1.ownsRow w.heap.size 5 1 v' ((quo L k).length + m.length) (Lib.byteCells (quo L k) ++ Lib.byteCells m) → (wr.alloc o).grownBy w1 v.ownBlock → Hid (QR w (quo L (k + 1)) v' w1)
def FinC (w wr : World) (L : List UInt8) (v : Value) : Prop :=
  ∀ (o : Obj) (v' : Value) (w1 : World), w1.ownsRow w.heap.size 5 1 v' ((quo L L.length).length + 1) (Lib.byteCells (quo L L.length) ++ Lib.byteCells [34]) → (wr.alloc o).grownBy w1 v.ownBlock → (convert 98 9 v').run Tryz.prog w1 = .ok (Value.string (ByteArray.mk (quo L L.length ++ [34]).toArray)) w1 ∧ Below w.heap.size w w1
end Go.Proofs.YtjggnnmnegcpjaaGreatDoor
namespace Go.Proofs.YtjggnnmnegcpjaaGreatDoor
open Go.Shelf
def renB : Go.Shelf.Ren := ⟨fun | 166 => 72 | 167 => 75 | 169 => 66 | 240 => 109 | 276 => 169 | n => n, fun | 0 => 0 | 3 => 3 | 4 => 4 | 5 => 5 | 9 => 9 | 20 => 20 | 37 => 98 | 70 => 103 | 72 => 105 | 75 => 121 | 80 => 110 | 127 => 157 | 164 => 203 | n => n, fun | n => n⟩
theorem lays166 : Go.Proofs.Lays.n166 Tryz.prog renB := {
  mixed := by kernel_rfl
  f166 := Tryz.func72.trans (congrArg some (by kernel_rfl))
  f240 := Tryz.func109.trans (congrArg some (by kernel_rfl))
  f276 := Tryz.func169.trans (congrArg some (by kernel_rfl))
  t0 := Tryz.underlying0
  a0 := Tryz.isAgg0
  z0 := Tryz.sizeOf0
  v0 := Tryz.zeroValue0
  t3 := Tryz.underlying3
  a3 := Tryz.isAgg3
  z3 := Tryz.sizeOf3
  v3 := Tryz.zeroValue3
  t4 := Tryz.underlying4
  a4 := Tryz.isAgg4
  z4 := Tryz.sizeOf4
  v4 := Tryz.zeroValue4
  t9 := Tryz.underlying9
  a9 := Tryz.isAgg9
  z9 := Tryz.sizeOf9
  v9 := Tryz.zeroValue9
  t20 := Tryz.underlying20
  a20 := Tryz.isAgg20
  z20 := Tryz.sizeOf20
  v20 := Tryz.zeroValue20
  t37 := Tryz.underlying98
  a37 := Tryz.isAgg98
  z37 := Tryz.sizeOf98
  v37 := Tryz.zeroValue98
  t70 := Tryz.underlying103
  a70 := Tryz.isAgg103
  z70 := Tryz.sizeOf103
  v70 := Tryz.zeroValue103
  t72 := Tryz.underlying105
  a72 := Tryz.isAgg105
  z72 := Tryz.sizeOf105
  v72 := Tryz.zeroValue105
  t75 := Tryz.underlying121
  a75 := Tryz.isAgg121
  z75 := Tryz.sizeOf121
  v75 := Tryz.zeroValue121
  t164 := Tryz.underlying203
  a164 := Tryz.isAgg203
  z164 := Tryz.sizeOf203
  v164 := Tryz.zeroValue203 }
theorem lays167 : Go.Proofs.Lays.n167 Tryz.prog renB := {
  mixed := by kernel_rfl
  f167 := Tryz.func75.trans (congrArg some (by kernel_rfl))
  f240 := Tryz.func109.trans (congrArg some (by kernel_rfl))
  f276 := Tryz.func169.trans (congrArg some (by kernel_rfl))
  t0 := Tryz.underlying0
  a0 := Tryz.isAgg0
  z0 := Tryz.sizeOf0
  v0 := Tryz.zeroValue0
  t4 := Tryz.underlying4
  a4 := Tryz.isAgg4
  z4 := Tryz.sizeOf4
  v4 := Tryz.zeroValue4
  t5 := Tryz.underlying5
  a5 := Tryz.isAgg5
  z5 := Tryz.sizeOf5
  v5 := Tryz.zeroValue5
  t9 := Tryz.underlying9
  a9 := Tryz.isAgg9
  z9 := Tryz.sizeOf9
  v9 := Tryz.zeroValue9
  t20 := Tryz.underlying20
  a20 := Tryz.isAgg20
  z20 := Tryz.sizeOf20
  v20 := Tryz.zeroValue20
  t37 := Tryz.underlying98
  a37 := Tryz.isAgg98
  z37 := Tryz.sizeOf98
  v37 := Tryz.zeroValue98
  t70 := Tryz.underlying103
  a70 := Tryz.isAgg103
  z70 := Tryz.sizeOf103
  v70 := Tryz.zeroValue103
  t72 := Tryz.underlying105
  a72 := Tryz.isAgg105
  z72 := Tryz.sizeOf105
  v72 := Tryz.zeroValue105
  t75 := Tryz.underlying121
  a75 := Tryz.isAgg121
  z75 := Tryz.sizeOf121
  v75 := Tryz.zeroValue121
  t164 := Tryz.underlying203
  a164 := Tryz.isAgg203
  z164 := Tryz.sizeOf203
  v164 := Tryz.zeroValue203 }
theorem lays169 : Go.Proofs.Lays.n169 Tryz.prog renB := {
  mixed := by kernel_rfl
  f169 := Tryz.func66.trans (congrArg some (by kernel_rfl))
  t0 := Tryz.underlying0
  a0 := Tryz.isAgg0
  z0 := Tryz.sizeOf0
  v0 := Tryz.zeroValue0
  t3 := Tryz.underlying3
  a3 := Tryz.isAgg3
  z3 := Tryz.sizeOf3
  v3 := Tryz.zeroValue3
  t9 := Tryz.underlying9
  a9 := Tryz.isAgg9
  z9 := Tryz.sizeOf9
  v9 := Tryz.zeroValue9
  t37 := Tryz.underlying98
  a37 := Tryz.isAgg98
  z37 := Tryz.sizeOf98
  v37 := Tryz.zeroValue98
  t70 := Tryz.underlying103
  a70 := Tryz.isAgg103
  z70 := Tryz.sizeOf103
  v70 := Tryz.zeroValue103
  t72 := Tryz.underlying105
  a72 := Tryz.isAgg105
  z72 := Tryz.sizeOf105
  v72 := Tryz.zeroValue105
  t127 := Tryz.underlying157
  a127 := Tryz.isAgg157
  z127 := Tryz.sizeOf157
  v127 := Tryz.zeroValue157 }
theorem extraB : Builder.Extra Tryz.prog renB := {
  sizeBuilder := by kernel_rfl
  liesBuilder := by kernel_rfl
  t5 := Tryz.underlying5
  a5 := Tryz.isAgg5
  z5 := Tryz.sizeOf5
  v5 := Tryz.zeroValue5
  infoByte := by kernel_rfl
  cellsByte := by kernel_rfl
  sizeByte := by kernel_rfl
  neB5 := by decide }
open Go.RowKit in
theorem bldByte (B b : Nat) (bs : List Value) (c : Int) (w : World) (h : Lib.IsBuilder 105 5 B b bs w) (hlen : bs.length + 1 ≤ 140737488355328) (hBw : B ≤ w.heap.size) :
    Calls Tryz.prog 75 #[.pointer (some ⟨b, 0, none⟩), .int .u8 c] w fun e w' => e = .returned .nilIface ∧ (Lib.BuilderAt 105 5 B b (.pointer (some ⟨b, 0, none⟩)) (bs ++ [.int .u8 c]) w' ∧ Below B w w') := Any.Builder_WriteByte lays167 extraB B b bs c w h hlen hBw
open Go.RowKit in
theorem bldString (B b : Nat) (bs : List Value) (s : ByteArray) (w : World) (h : Lib.IsBuilder 105 5 B b bs w) (hlen : bs.length + s.size ≤ 140737488355328) (hBw : B ≤ w.heap.size) :
    Calls Tryz.prog 72 #[.pointer (some ⟨b, 0, none⟩), .string s] w fun e w' => e = .returned (.tuple #[.int .i64 s.size, .nilIface]) ∧ (Lib.BuilderAt 105 5 B b (.pointer (some ⟨b, 0, none⟩)) (bs ++ Lib.strCells s) w' ∧ Below B w w') := Any.Builder_WriteString lays166 extraB B b bs s w h hlen hBw
open Go.RowKit in
theorem bldText (B b : Nat) (l : List UInt8) (w : World) (h : Lib.IsBuilder 105 5 B b (Lib.byteCells l) w) (hBw : B ≤ w.heap.size) :
    Calls Tryz.prog 66 #[.pointer (some ⟨b, 0, none⟩)] w fun e w' => e = .returned (.string ⟨l.toArray⟩) ∧ Below B w w' := Any.Builder_String_any lays169 extraB B b l w h hBw
end Go.Proofs.YtjggnnmnegcpjaaGreatDoor
namespace Go.Proofs.YtjggnnmnegcpjaaGreatDoor
open Go.ChangeShapes Go.WideShapes Go.ChangeAt Go.RowKit
set_option linter.unusedVariables false
theorem conv_lit (W : World) (l : List UInt8) (cs : Array Value) (hc : cs.toList = Lib.byteCells l) (n c : Nat) (hn : n = l.length) (hl : l ≠ []) :
    (convert 98 9 (.slice (some ⟨W.heap.size, 0, none⟩) n c)).run Tryz.prog (W.alloc (.cells cs 5)) = .ok (.string ⟨l.toArray⟩) (W.alloc (.cells cs 5)) := by
  subst hn
  refine run_convert_bytes_back _ 98 9 5 _ c l Tryz.underlying98 Tryz.underlying5 Tryz.underlying9 (fun j hj => ?_)
  exact qr_cells W cs 5 (Lib.byteCells l) hc j _ (by simp [Lib.byteCells, hj])
set_option maxHeartbeats 1000000 in
theorem impl_el (x : UInt8) (w : World) :
    Calls Tryz.prog 173 #[.int .u8 (x.toNat : Int)] w fun e w' => e = .returned (.string ⟨(qel x).toArray⟩) ∧ Below w.heap.size w w' := by
  have hxl := x.toNat_lt
  by_cases hc : x.toNat = 10
  · have hq : qel x = [92, 110] := by unfold qel; rw [if_pos hc]
    have hxi : (x.toNat : Int) = 10 := by omega
    rw [hq, hxi]
    clear hq hxi hxl hc 
    go_enter Tryz.func173, Tryz.ntmps173
    go_wp2
    go_ret
    exact ⟨rfl, Below.refl _ _⟩
  have n10 := hc
  clear hc
  by_cases hc : x.toNat = 9
  · have hq : qel x = [92, 116] := by unfold qel; rw [if_neg n10, if_pos hc]
    have hxi : (x.toNat : Int) = 9 := by omega
    rw [hq, hxi]
    clear hq hxi hxl hc n10
    go_enter Tryz.func173, Tryz.ntmps173
    go_wp2
    go_ret
    exact ⟨rfl, Below.refl _ _⟩
  have n9 := hc
  clear hc
  by_cases hc : x.toNat = 34
  · have hq : qel x = [92, 34] := by unfold qel; rw [if_neg n10, if_neg n9, if_pos hc]
    have hxi : (x.toNat : Int) = 34 := by omega
    rw [hq, hxi]
    clear hq hxi hxl hc n10 n9
    go_enter Tryz.func173, Tryz.ntmps173
    go_wp2
    go_ret
    exact ⟨rfl, Below.refl _ _⟩
  have n34 := hc
  clear hc
  by_cases hc : x.toNat = 92
  · have hq : qel x = [92, 92] := by unfold qel; rw [if_neg n10, if_neg n9, if_neg n34, if_pos hc]
    have hxi : (x.toNat : Int) = 92 := by omega
    rw [hq, hxi]
    clear hq hxi hxl hc n10 n9 n34
    go_enter Tryz.func173, Tryz.ntmps173
    go_wp2
    go_ret
    exact ⟨rfl, Below.refl _ _⟩
  have n92 := hc
  clear hc
  have i1 : ((x.toNat : Int) == 10) = false := by simp; omega
  have i2 : ((x.toNat : Int) == 9) = false := by simp; omega
  have i3 : ((x.toNat : Int) == 34) = false := by simp; omega
  have i4 : ((x.toNat : Int) == 92) = false := by simp; omega
  by_cases hc : x.toNat < 32 ∨ 126 < x.toNat
  · have hq : qel x = [92, 120, hx (x.toNat / 16), hx (x.toNat % 16)] := by unfold qel; rw [if_neg n10, if_neg n9, if_neg n34, if_neg n92, if_pos hc]
    rw [hq]
    have hi1 := ixh (x.toNat / 16) (by omega)
    have hi2 := ixh (x.toNat % 16) (by omega)
    have hcv := fun W : World => conv_lit W [92, 120, hx (x.toNat / 16), hx (x.toNat % 16)] #[.int .u8 92, .int .u8 120, .int .u8 ((hx (x.toNat / 16)).toNat : Int), .int .u8 ((hx (x.toNat % 16)).toNat : Int)] rfl 4 4 rfl (by simp)
    have hcc : (x.toNat : Int) < 32 ∨ (¬ (x.toNat : Int) < 32 ∧ 126 < (x.toNat : Int)) := by omega
    rw [show ((x.toNat / 16 : Nat) : Int) = (x.toNat : Int) / 16 by omega] at hi1
    rw [show ((x.toNat % 16 : Nat) : Int) = (x.toNat : Int) % 16 by omega] at hi2
    generalize hd1 : ((hx (x.toNat / 16)).toNat : Int) = d1 at hi1 hcv
    generalize hd2 : ((hx (x.toNat % 16)).toNat : Int) = d2 at hi2 hcv
    generalize hR : (ByteArray.mk [92, 120, hx (x.toNat / 16), hx (x.toNat % 16)].toArray) = R at hcv ⊢
    generalize hd0 : (x.toNat : Int) = xi at hi1 hi2 i1 i2 i3 i4 hcc ⊢
    have hx0 : 0 ≤ xi := by omega
    have hx1 : xi < 256 := by omega
    have hbt : bits BinOp.and IntKind.u8 xi 15 = xi % 16 := by go_bits; trivial
    generalize xi % 16 = r2 at hbt hi2
    have hcvd : ∀ W : World, (convert 98 9 (.slice (some ⟨W.heap.size, 0, none⟩) 4 4)).run Tryz.prog (W.alloc (.cells #[.int .u8 92, .int .u8 120, .int .u8 d1, .int .u8 d2] 5)).drew = .ok (.string R) (W.alloc (.cells #[.int .u8 92, .int .u8 120, .int .u8 d1, .int .u8 d2] 5)).drew := fun W => hcv W.drew
    clear n10 n9 n34 n92 hc hd1 hd2 hR hd0 hxl hq
    rcases hcc with hcc | ⟨i5, hcc⟩
    all_goals
      go_enter Tryz.func173, Tryz.ntmps173
      go_wp2_with fail
      go_region_held_law (fun _ => True) (trivial) (fail)
      all_goals
        go_wp2
        go_ret
        exact ⟨rfl, ((Below.refl _ w).alloc (Nat.le_refl _) _).drew⟩
  · have hq : qel x = [x] := by unfold qel; rw [if_neg n10, if_neg n9, if_neg n34, if_neg n92, if_neg hc]
    rw [hq]
    have hcv := conv_lit w [x] #[.int .u8 (x.toNat : Int)] rfl 1 1 rfl (by simp)
    have i5 : ¬ (x.toNat : Int) < 32 := by omega
    have i6 : ¬ 126 < (x.toNat : Int) := by omega
    generalize hR : (ByteArray.mk [x].toArray) = R at hcv ⊢
    generalize hd0 : (x.toNat : Int) = xi at i1 i2 i3 i4 i5 i6 hcv ⊢
    clear n10 n9 n34 n92 hc hR hd0 hxl hq
    go_enter Tryz.func173, Tryz.ntmps173
    go_wp2
    go_ret
    exact ⟨rfl, (Below.refl _ w).alloc (Nat.le_refl _) _⟩
theorem bld_below {T e : TypeId} {B b : Nat} {p : Value} {bs : List Value} {w w' : World} (h : Lib.BuilderAt T e B b p bs w) (hb : Below w.heap.size w w') : Lib.BuilderAt T e B b p bs w' := by
  obtain ⟨h1, v, h2, h3, h4⟩ := h
  have hlt : b < w.heap.size := by
    rcases Nat.lt_or_ge b w.heap.size with h' | h'
    · exact h'
    · rw [Array.getElem?_eq_none h'] at h2; cases h2
  refine ⟨h1, v, (hb.block b hlt).trans h2, ?_, h4⟩
  refine ⟨h3.1, ?_⟩
  rcases h3.2 with h | ⟨g, cap, cur, e1, e2, e3, e4⟩
  · exact .inl h
  · have hg : g < w.heap.size := by
      rcases Nat.lt_or_ge g w.heap.size with h' | h'
      · exact h'
      · rw [Array.getElem?_eq_none h'] at e3; cases e3
    exact .inr ⟨g, cap, cur, e1, e2, (hb.block g hg).trans e3, e4⟩
theorem sc_bytes (l : List UInt8) : Lib.strCells ⟨l.toArray⟩ = Lib.byteCells l := by simp [Lib.strCells, Lib.byteCells]
set_option maxRecDepth 100000 in
set_option maxHeartbeats 1000000 in
theorem impl_quote (T : ByteArray) (L : List UInt8) (hT : T.data.toList = L) (hlen : L.length ≤ 4000) (w : World) :
    Calls Tryz.prog 113 #[.string T] w fun e w' => e = .returned (.string ⟨(quo L L.length ++ [34]).toArray⟩) ∧ Below w.heap.size w w' := by
  have hsz : T.size = L.length := by rw [← hT]; simp
  have HX := fun k c hk => ix T L hT k c hk
  have h0 := Lib.fresh_isBuilder 105 5 w
  have hb0 : Below w.heap.size w (w.alloc (.cells #[.pointer none, .slice none 0 0] 105)) := (Below.refl _ w).alloc (Nat.le_refl _) _
  have c0 := bldByte w.heap.size w.heap.size [] 34 _ h0 (by simp) (by simp)
  clear h0
  have hn1 : ¬ (4000 : Int) < (T.size : Int) := by omega
  go_enter Tryz.func113, Tryz.ntmps113
  go_wp2_with fail
  refine c0.mono ?_
  rintro e w1 ⟨rfl, hB1, hb1⟩
  clear c0
  have HS : Hid (Lib.BuilderAt 105 5 w.heap.size w.heap.size (.pointer (some ⟨w.heap.size, 0, none⟩)) (Lib.byteCells (quo L 0)) w1 ∧ Below w.heap.size w w1) := (⟨by rw [quo_zero]; exact hB1, hb0.trans hb1⟩ : _ ∧ _)
  clear hB1 hb1 hb0
  go_wp2_with fail
  go_loopw [11] (fun i wr => ∃ k : Nat, k ≤ L.length ∧ i = .int .i64 k ∧ Hid (Lib.BuilderAt 105 5 w.heap.size w.heap.size (.pointer (some ⟨w.heap.size, 0, none⟩)) (Lib.byteCells (quo L k)) wr ∧ Below w.heap.size w wr)) (fun i _ => L.length - (intOf i).toNat)
  case atStart => exact ⟨0, by omega, rfl, HS⟩
  case round =>
    clear HS
    obtain ⟨k, hk, rfl, HS⟩ := hrel
    obtain ⟨hB, hb⟩ := (show Lib.BuilderAt 105 5 w.heap.size w.heap.size (.pointer (some ⟨w.heap.size, 0, none⟩)) (Lib.byteCells (quo L k)) wr ∧ Below w.heap.size w wr from HS)
    have hql := quo_len L k
    clear HS
    by_cases hkn : k < L.length
    · have hxx : L[k]? = some L[k] := List.getElem?_eq_getElem hkn
      have hgx := HX k L[k] hxx
      have hqs := quo_succ L k L[k] hxx
      generalize L[k] = x at hgx hqs
      have hel := impl_el x wr
      have hcs : ∀ w', Below wr.heap.size wr w' → Calls Tryz.prog 72 #[.pointer (some ⟨w.heap.size, 0, none⟩), .string ⟨(qel x).toArray⟩] w' fun e w'' => e = .returned (.tuple #[.int .i64 ((⟨(qel x).toArray⟩ : ByteArray).size : Int), .nilIface]) ∧ Hid (Lib.BuilderAt 105 5 w.heap.size w.heap.size (.pointer (some ⟨w.heap.size, 0, none⟩)) (Lib.byteCells (quo L (k + 1))) w'' ∧ Below w.heap.size w w'') := by
        intro w' hw'
        refine (bldString w.heap.size w.heap.size _ ⟨(qel x).toArray⟩ w' (Or.inr (bld_below hB hw')) ?_ ?_).mono ?_
        · rw [bc_len]
          have := qel_len x
          have e : (⟨(qel x).toArray⟩ : ByteArray).size = (qel x).length := by simp [ByteArray.size]
          omega
        · have h1 := hb.size; have h2 := hw'.size; omega
        · rintro e w'' ⟨rfl, h1, h2⟩
          refine ⟨rfl, (⟨?_, (hb.trans (hw'.mono hb.size)).trans h2⟩ : _ ∧ _)⟩
          rw [hqs, bc_append]
          rw [sc_bytes] at h1
          exact h1
      clear HX hT hxx hqs hB hb hql
      have hkk : (k : Int) < 4000 := by omega
      generalize (x.toNat : Int) = xi at *
      generalize (ByteArray.mk (qel x).toArray) = E at *
      go_wp2_with fail
      refine hel.mono ?_
      rintro e w2 ⟨rfl, hb2⟩
      have hcs2 := hcs w2 hb2
      clear hel hcs hb2
      go_wp2_with fail
      refine hcs2.mono ?_
      rintro e w3 ⟨rfl, HS⟩
      clear hcs2
      go_wp2_with fail
      go_roundw
      case rel => exact ⟨k + 1, by omega, by go_num, HS⟩
      case measure => simp [intOf]; omega
    · obtain rfl : k = L.length := by omega
      have hcs := bldByte w.heap.size w.heap.size _ 34 wr (Or.inr hB) (by rw [bc_len]; omega) hb.size
      have hfin : ∀ w1, Lib.BuilderAt 105 5 w.heap.size w.heap.size (.pointer (some ⟨w.heap.size, 0, none⟩)) (Lib.byteCells (quo L L.length) ++ [.int .u8 34]) w1 → Below w.heap.size wr w1 → Calls Tryz.prog 66 #[.pointer (some ⟨w.heap.size, 0, none⟩)] w1 fun e w' => e = .returned (.string ⟨(quo L L.length ++ [34]).toArray⟩) ∧ Below w.heap.size w w' := by
        intro w1 h1 h2
        refine (bldText w.heap.size w.heap.size (quo L L.length ++ [34]) w1 (Or.inr (by rw [bc_append]; exact h1)) (hb.trans h2).size).mono ?_
        rintro e w' ⟨rfl, h3⟩
        exact ⟨rfl, (hb.trans h2).trans h3⟩
      clear HX hT hql hB hb
      go_wp2_with fail
      refine hcs.mono ?_
      rintro e w1 ⟨rfl, h1, h2⟩
      have hf := hfin w1 h1 h2
      clear hfin hcs h1 h2
      go_wp2_with fail
      refine hf.mono ?_
      rintro e w2 ⟨rfl, h3⟩
      clear hf
      go_wp2_with fail
      go_ret
      exact ⟨rfl, h3⟩
end Go.Proofs.YtjggnnmnegcpjaaGreatDoor
namespace Go.Proofs.YtjggnnmnegcpjaaGreatDoor
open Go.ChangeShapes Go.WideShapes Go.ChangeAt Go.RowKit
set_option linter.unusedVariables false
/-- what a text is quoted as -/
def qt (T : ByteArray) : ByteArray := if 4000 < T.size then ⟨#[]⟩ else ⟨(quo T.data.toList T.data.toList.length ++ [34]).toArray⟩
theorem impl_qt (T : ByteArray) (w : World) : Calls Tryz.prog 113 #[.string T] w fun e w' => e = .returned (.string (qt T)) ∧ Below w.heap.size w w' := by
  by_cases h : 4000 < T.size
  · have e : qt T = ⟨#[]⟩ := by unfold qt; rw [if_pos h]
    rw [e]
    have hi : (4000 : Int) < (T.size : Int) := by omega
    clear e h
    go_enter Tryz.func113, Tryz.ntmps113
    go_wp2_with fail
    go_ret
    exact ⟨rfl, Below.refl _ _⟩
  · have e : qt T = ⟨(quo T.data.toList T.data.toList.length ++ [34]).toArray⟩ := by unfold qt; rw [if_neg h]
    rw [e]
    exact impl_quote T T.data.toList rfl (by simp; omega) w
end Go.Proofs.YtjggnnmnegcpjaaGreatDoor
namespace Go.Proofs.YtjggnnmnegcpjaaGreatDoor.Fo
open Go.ChangeShapes Go.WideShapes Go.ChangeAt Go.RowKit
set_option linter.unusedVariables false
theorem below_new {w W : World} {x : Obj} (h : Below (w.alloc x).heap.size (w.alloc x) W) : Below w.heap.size w W := ((Below.refl _ w).alloc (Nat.le_refl _) _).trans (h.mono (by simp))
theorem kept_via {w W : World} {x : Obj} (h : Rd.Kept (w.alloc x) W) : Rd.Kept w W := Kb.kept (B := w.heap.size) ((Kb.new _ _ _).trans (Kb.of_kept h)) (Nat.le_refl _)
theorem kept_below {w W : World} {x : Obj} (h : Below (w.alloc x).heap.size (w.alloc x) W) : Rd.Kept w W := Kb.kept (B := w.heap.size) (Kb.of_below (below_new h) (Nat.le_refl _)) (Nat.le_refl _)
set_option maxRecDepth 100000 in
set_option maxHeartbeats 1000000 in
theorem im_tt1 (kd : Int) (hk : kd = 1 ∨ kd = 3) (f t l n : Int) (x R : ByteArray) (h : ∀ w, Gd w → Calls Tryz.prog 263 #[.agg #[.int .i64 kd, .int .i64 f, .int .i64 t, .int .i64 l, .int .i64 n, .string x], .int .i64 40] w fun e w' => e = .returned (.string R) ∧ Rd.Kept w w') (w : World) (hg : Gd w) :
    Calls Tryz.prog 220 #[.agg #[.int .i64 kd, .int .i64 f, .int .i64 t, .int .i64 l, .int .i64 n, .string x]] w fun e w' => e = .returned (.string R) ∧ Rd.Kept w w' := by
  have h1 := fun o => h (w.alloc o) (hg.kb hg.size (Kb.new _ w o))
  clear h hg
  rcases hk with rfl | rfl
  all_goals
    go_enter Tryz.func220, Tryz.ntmps220
    go_wp2_with fail
    refine (h1 _).mono ?_
    rintro e w1 ⟨rfl, hb1⟩
    have HB2 : Hid (Rd.Kept w w1) := kept_via hb1
    clear h1 hb1
    go_wp2_with fail
    go_ret
    exact ⟨rfl, HB2⟩
set_option maxRecDepth 100000 in
set_option maxHeartbeats 1000000 in
theorem im_tt4 (f t l n : Int) (x R : ByteArray) (h : ∀ w, Calls Tryz.prog 113 #[.string x] w fun e w' => e = .returned (.string R) ∧ Below w.heap.size w w') (w : World) :
    Calls Tryz.prog 220 #[.agg #[.int .i64 4, .int .i64 f, .int .i64 t, .int .i64 l, .int .i64 n, .string x]] w fun e w' => e = .returned (.string R) ∧ Rd.Kept w w' := by
  have h1 := fun o => h (w.alloc o)
  clear h
  go_enter Tryz.func220, Tryz.ntmps220
  go_wp2_with fail
  refine (h1 _).mono ?_
  rintro e w1 ⟨rfl, hb1⟩
  have HB2 : Hid (Rd.Kept w w1) := kept_below hb1
  clear h1 hb1
  go_wp2_with fail
  go_ret
  exact ⟨rfl, HB2⟩
/-- a text is written by the program just when z holds -/
def Wr (kd : Int) (x : ByteArray) (z : Bool) : Prop := ∀ (f t l nn : Int) (w : World), Gd w → Calls Tryz.prog 220 #[.agg #[.int .i64 kd, .int .i64 f, .int .i64 t, .int .i64 l, .int .i64 nn, .string x]] w fun e w' => ∃ R : ByteArray, e = .returned (.string R) ∧ (R = ⟨#[]⟩ ↔ z = false) ∧ Rd.Kept w w'
theorem wr_of {sf : Nat} {kd : Int} (hk : kd = 1 ∨ kd = 3) {x R : ByteArray} (h : TxtC sf kd x R) : ∃ z : Bool, (∀ w, Calls Tryz.prog sf #[.string x] w fun e w' => e = .returned (.bool z) ∧ Below w.heap.size w w') ∧ Wr kd x z := by
  obtain ⟨⟨z, h1, hR, hz⟩, h2⟩ := h
  refine ⟨z, h1, fun f t l nn w hg => (im_tt1 kd hk f t l nn x R (fun w hg => h2 f t l nn w hg) w hg).mono fun e w' h => ⟨R, h.1, ?_, h.2⟩⟩
  cases z with
  | false => rw [hR]; simp
  | true =>
    have hs := hz rfl
    rw [hR]
    simp
    intro e
    rw [e] at hs
    exact absurd hs (by decide)
theorem nm_ex (x : ByteArray) : ∃ z : Bool, (∀ w, Calls Tryz.prog 122 #[.string x] w fun e w' => e = .returned (.bool z) ∧ Below w.heap.size w w') ∧ Wr 1 x z := by
  obtain ⟨R, h⟩ := txt_name x
  exact wr_of (.inl rfl) h
theorem fl_ex (x : ByteArray) : ∃ z : Bool, (∀ w, Calls Tryz.prog 121 #[.string x] w fun e w' => e = .returned (.bool z) ∧ Below w.heap.size w w') ∧ Wr 3 x z := by
  obtain ⟨R, h⟩ := txt_flt x
  exact wr_of (.inr rfl) h
/-- names and floats -/
def nmp (x : ByteArray) : Prop := Classical.choose (nm_ex x) = true
def flp (x : ByteArray) : Prop := Classical.choose (fl_ex x) = true
theorem dc_b (z : Bool) : dc (z = true) = z := by
  cases z with
  | true => exact dc_t rfl
  | false => exact dc_f (by decide)
theorem nm_s : NmS nmp := fun x w => by
  rw [show dc (nmp x) = Classical.choose (nm_ex x) from dc_b _]
  exact (Classical.choose_spec (nm_ex x)).1 w
theorem fl_s : FlS flp := fun x w => by
  rw [show dc (flp x) = Classical.choose (fl_ex x) from dc_b _]
  exact (Classical.choose_spec (fl_ex x)).1 w
theorem nm_w (x : ByteArray) : Wr 1 x (dc (nmp x)) := by
  rw [show dc (nmp x) = Classical.choose (nm_ex x) from dc_b _]
  exact (Classical.choose_spec (nm_ex x)).2
theorem fl_w (x : ByteArray) : Wr 3 x (dc (flp x)) := by
  rw [show dc (flp x) = Classical.choose (fl_ex x) from dc_b _]
  exact (Classical.choose_spec (fl_ex x)).2
theorem st_w (x : ByteArray) : Wr 4 x (dc (x.size ≤ 4000)) := fun f t l nn w hg => (im_tt4 f t l nn x (qt x) (fun w => impl_qt x w) w).mono fun e w' h => ⟨qt x, h.1, by
  unfold qt
  by_cases h4 : 4000 < x.size
  · rw [if_pos h4, dc_f (by omega)]; simp
  · rw [if_neg h4, dc_t (by omega)]
    simp, h.2⟩
end Go.Proofs.YtjggnnmnegcpjaaGreatDoor.Fo
namespace Go.Proofs.YtjggnnmnegcpjaaGreatDoor.Fo
open Go.ChangeShapes Go.WideShapes Go.ChangeAt Go.RowKit
set_option linter.unusedVariables false
/-- a form as an interface value of type t -/
def shv (t : TypeId) (a : Fv) (vn vk : Value) : Value := .iface t (fmv a vn vk)
set_option maxRecDepth 100000 in
theorem im_holds (x y k : Int) (w : World) : Calls Tryz.prog 175 #[.agg #[.int .i64 x, .int .i64 y], .int .i64 k] w fun e w' => e = .returned (.bool (dc (x ≤ k ∧ k ≤ y))) ∧ Below w.heap.size w w' := by
  rcases Int.lt_or_le k x with h | h
  · rw [dc_f (by omega)]
    have h' : ¬ x ≤ k := by omega
    clear h
    go_enter Tryz.func175, Tryz.ntmps175
    go_wp2_with fail
    go_ret
    exact ⟨rfl, bel1 _ _⟩
  · rcases Int.lt_or_le y k with g | g
    · rw [dc_f (by omega)]
      have g' : ¬ k ≤ y := by omega
      clear g
      go_enter Tryz.func175, Tryz.ntmps175
      go_wp2_with fail
      go_ret
      exact ⟨rfl, bel1 _ _⟩
    · rw [dc_t ⟨h, g⟩]
      go_enter Tryz.func175, Tryz.ntmps175
      go_wp2_with fail
      go_ret
      exact ⟨rfl, bel1 _ _⟩
set_option maxRecDepth 100000 in
theorem im_just (k : Int) (w : World) : Calls Tryz.prog 348 #[.int .i64 k] w fun e w' => e = .returned (.agg #[.int .i64 k, .int .i64 k]) ∧ Below w.heap.size w w' := by
  go_enter Tryz.func348, Tryz.ntmps348
  go_wp2_with fail
  go_returns
  exact ⟨rfl, bel1 _ _⟩
/-- which expression may stand at a place -/
def tx (s k : Int) : Prop := s = 3 ∨ (s = 4 ∧ k ≠ 27) ∨ (s = 5 ∧ (k = 26 ∨ k = 32 ∨ k = 33)) ∨ (s = 6 ∧ k = 34) ∨ (s = 7 ∧ (k = 34 ∨ k = 27)) ∨ (s = 8 ∧ k = 36)
set_option maxRecDepth 100000 in
set_option maxHeartbeats 2000000 in
theorem im_tx (s k : Int) (hs : 0 ≤ s ∧ s ≤ 9) (w : World) : Calls Tryz.prog 178 #[.int .i64 s, .int .i64 k] w fun e w' => e = .returned (.bool (dc (tx s k))) ∧ w' = w := by
  have hs' : s = 0 ∨ s = 1 ∨ s = 2 ∨ s = 3 ∨ s = 4 ∨ s = 5 ∨ s = 6 ∨ s = 7 ∨ s = 8 ∨ s = 9 := by omega
  clear hs
  rcases hs' with rfl | rfl | rfl | rfl | rfl | rfl | rfl | rfl | rfl | rfl
  · rw [dc_f (by unfold tx; omega)]
    go_enter Tryz.func178, Tryz.ntmps178
    go_wp2_with fail
    go_ret
    exact ⟨rfl, rfl⟩
  · rw [dc_f (by unfold tx; omega)]
    go_enter Tryz.func178, Tryz.ntmps178
    go_wp2_with fail
    go_ret
    exact ⟨rfl, rfl⟩
  · rw [dc_f (by unfold tx; omega)]
    go_enter Tryz.func178, Tryz.ntmps178
    go_wp2_with fail
    go_ret
    exact ⟨rfl, rfl⟩
  · rw [dc_t (by unfold tx; omega)]
    go_enter Tryz.func178, Tryz.ntmps178
    go_wp2_with fail
    go_ret
    exact ⟨rfl, rfl⟩
  · by_cases h27 : k = 27
    · rw [dc_f (by unfold tx; omega)]
      have g27 : (k != 27) = false := by rw [h27]; rfl
      clear h27
      go_enter Tryz.func178, Tryz.ntmps178
      go_wp2_with fail
      go_ret
      exact ⟨rfl, rfl⟩
    · have g27 : (k != 27) = true := bne_iff_ne.2 h27
      rw [dc_t (by unfold tx; omega)]
      clear h27
      go_enter Tryz.func178, Tryz.ntmps178
      go_wp2_with fail
      go_ret
      exact ⟨rfl, rfl⟩
  · by_cases h26 : k = 26
    · rw [dc_t (by unfold tx; omega)]
      have g26 := beq1 h26
      clear h26
      go_enter Tryz.func178, Tryz.ntmps178
      go_wp2_with fail
      go_ret
      exact ⟨rfl, rfl⟩
    · have g26 := bne h26
      by_cases h32 : k = 32
      · rw [dc_t (by unfold tx; omega)]
        have g32 := beq1 h32
        clear h26 h32
        go_enter Tryz.func178, Tryz.ntmps178
        go_wp2_with fail
        go_ret
        exact ⟨rfl, rfl⟩
      · have g32 := bne h32
        by_cases h33 : k = 33
        · rw [dc_t (by unfold tx; omega)]
          have g33 := beq1 h33
          clear h26 h32 h33
          go_enter Tryz.func178, Tryz.ntmps178
          go_wp2_with fail
          go_ret
          exact ⟨rfl, rfl⟩
        · have g33 := bne h33
          rw [dc_f (by unfold tx; omega)]
          clear h26 h32 h33
          go_enter Tryz.func178, Tryz.ntmps178
          go_wp2_with fail
          go_ret
          exact ⟨rfl, rfl⟩
  · by_cases h34 : k = 34
    · rw [dc_t (by unfold tx; omega)]
      have g34 := beq1 h34
      clear h34
      go_enter Tryz.func178, Tryz.ntmps178
      go_wp2_with fail
      go_ret
      exact ⟨rfl, rfl⟩
    · have g34 := bne h34
      rw [dc_f (by unfold tx; omega)]
      clear h34
      go_enter Tryz.func178, Tryz.ntmps178
      go_wp2_with fail
      go_ret
      exact ⟨rfl, rfl⟩
  · by_cases h34 : k = 34
    · rw [dc_t (by unfold tx; omega)]
      have g34 := beq1 h34
      clear h34
      go_enter Tryz.func178, Tryz.ntmps178
      go_wp2_with fail
      go_ret
      exact ⟨rfl, rfl⟩
    · have g34 := bne h34
      by_cases h27 : k = 27
      · rw [dc_t (by unfold tx; omega)]
        have g27 := beq1 h27
        clear h34 h27
        go_enter Tryz.func178, Tryz.ntmps178
        go_wp2_with fail
        go_ret
        exact ⟨rfl, rfl⟩
      · have g27 := bne h27
        rw [dc_f (by unfold tx; omega)]
        clear h34 h27
        go_enter Tryz.func178, Tryz.ntmps178
        go_wp2_with fail
        go_ret
        exact ⟨rfl, rfl⟩
  · by_cases h36 : k = 36
    · rw [dc_t (by unfold tx; omega)]
      have g36 := beq1 h36
      clear h36
      go_enter Tryz.func178, Tryz.ntmps178
      go_wp2_with fail
      go_ret
      exact ⟨rfl, rfl⟩
    · have g36 := bne h36
      rw [dc_f (by unfold tx; omega)]
      clear h36
      go_enter Tryz.func178, Tryz.ntmps178
      go_wp2_with fail
      go_ret
      exact ⟨rfl, rfl⟩
  · rw [dc_f (by unfold tx; omega)]
    go_enter Tryz.func178, Tryz.ntmps178
    go_wp2_with fail
    go_ret
    exact ⟨rfl, rfl⟩
set_option maxRecDepth 100000 in
set_option maxHeartbeats 2000000 in
theorem im_shs (a : Fv) (vn vk : Value) (h : 1 ≤ a.k ∧ a.k ≤ 16) (w : World) : Calls Tryz.prog 125 #[fmv a vn vk] w fun e w' => e = .returned (shv 207 a vn vk) ∧ Below w.heap.size w w' := by
  have h1 : 1 ≤ a.k := h.1
  have h2 : a.k ≤ 16 := h.2
  clear h
  unfold fmv shv
  go_enter Tryz.func125, Tryz.ntmps125
  go_wp2_with fail
  go_ret
  exact ⟨rfl, bel1 _ _⟩
set_option maxRecDepth 100000 in
set_option maxHeartbeats 2000000 in
theorem im_she (a : Fv) (vn vk : Value) (h : 20 ≤ a.k ∧ a.k ≤ 37) (w : World) : Calls Tryz.prog 125 #[fmv a vn vk] w fun e w' => e = .returned (shv 208 a vn vk) ∧ Below w.heap.size w w' := by
  have h1 : 20 ≤ a.k := h.1
  have h2 : a.k ≤ 37 := h.2
  have n1 : ¬ a.k ≤ 16 := by omega
  have y1 : 1 ≤ a.k := by omega
  clear h
  unfold fmv shv
  go_enter Tryz.func125, Tryz.ntmps125
  go_wp2_with fail
  go_ret
  exact ⟨rfl, bel1 _ _⟩
set_option maxRecDepth 100000 in
set_option maxHeartbeats 2000000 in
theorem im_sht (a : Fv) (vn vk : Value) (h : 40 ≤ a.k ∧ a.k ≤ 42) (w : World) : Calls Tryz.prog 125 #[fmv a vn vk] w fun e w' => e = .returned (shv 209 a vn vk) ∧ Below w.heap.size w w' := by
  have h1 : 40 ≤ a.k := h.1
  have h2 : a.k ≤ 42 := h.2
  have n1 : ¬ a.k ≤ 16 := by omega
  have y1 : 1 ≤ a.k := by omega
  have n2 : ¬ a.k ≤ 37 := by omega
  have y2 : 20 ≤ a.k := by omega
  clear h
  unfold fmv shv
  go_enter Tryz.func125, Tryz.ntmps125
  go_wp2_with fail
  go_ret
  exact ⟨rfl, bel1 _ _⟩
set_option maxRecDepth 100000 in
set_option maxHeartbeats 2000000 in
theorem im_shn (a : Fv) (vn vk : Value) (h : ¬ (1 ≤ a.k ∧ a.k ≤ 16) ∧ ¬ (20 ≤ a.k ∧ a.k ≤ 37) ∧ ¬ (40 ≤ a.k ∧ a.k ≤ 42)) (w : World) : Calls Tryz.prog 125 #[fmv a vn vk] w fun e w' => e = .returned .nilIface ∧ Below w.heap.size w w' := by
  have h4 : a.k < 1 ∨ (16 < a.k ∧ a.k < 20) ∨ (37 < a.k ∧ a.k < 40) ∨ 42 < a.k := by omega
  clear h
  unfold fmv
  rcases h4 with g | g | g | g
  · have n1 : ¬ 1 ≤ a.k := by omega
    have n2 : ¬ 20 ≤ a.k := by omega
    have n3 : ¬ 40 ≤ a.k := by omega
    clear g
    go_enter Tryz.func125, Tryz.ntmps125
    go_wp2_with fail
    go_ret
    exact ⟨rfl, bel1 _ _⟩
  · have n1 : ¬ a.k ≤ 16 := by omega
    have n0 : 1 ≤ a.k := by omega
    have n2 : ¬ 20 ≤ a.k := by omega
    have n3 : ¬ 40 ≤ a.k := by omega
    clear g
    go_enter Tryz.func125, Tryz.ntmps125
    go_wp2_with fail
    go_ret
    exact ⟨rfl, bel1 _ _⟩
  · have n1 : ¬ a.k ≤ 16 := by omega
    have n0 : 1 ≤ a.k := by omega
    have n2 : ¬ a.k ≤ 37 := by omega
    have n4 : 20 ≤ a.k := by omega
    have n3 : ¬ 40 ≤ a.k := by omega
    clear g
    go_enter Tryz.func125, Tryz.ntmps125
    go_wp2_with fail
    go_ret
    exact ⟨rfl, bel1 _ _⟩
  · have n1 : ¬ a.k ≤ 16 := by omega
    have n0 : 1 ≤ a.k := by omega
    have n2 : ¬ a.k ≤ 37 := by omega
    have n4 : 20 ≤ a.k := by omega
    have n3 : ¬ a.k ≤ 42 := by omega
    have n5 : 40 ≤ a.k := by omega
    clear g
    go_enter Tryz.func125, Tryz.ntmps125
    go_wp2_with fail
    go_ret
    exact ⟨rfl, bel1 _ _⟩
end Go.Proofs.YtjggnnmnegcpjaaGreatDoor.Fo
