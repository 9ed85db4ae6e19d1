import Derived.Test.YtogenhnonjkanaaDoorMSbk
import Derived.Test.YtogenhnonjkanaaDoorMSdd
import Derived.Test.YtogenhnonjkanaaDoorMSdj
namespace Go.Proofs.YtogenhnonjkanaaDoor
open Go.ChangeShapes Go.WideShapes Go.ChangeAt Go.RowKit
set_option linter.unusedVariables false
set_option maxRecDepth 100000 in
set_option maxHeartbeats 4000000 in
theorem impl_numx {B : Nat} {T : ByteArray} (L : List UInt8) (hT : T.data.toList = L) {k : Nat} {l : Int} {st : Bool} (hlen : T.size ≤ 65536) (hB : 8 ≤ B) (hx0 : lk L k = 48 ∧ lk L (k + 1) = 120) {ok : Bool} {tn : Nat} {n : Int} (hr : Hx L k ok tn n) (kd : Int) (hkd : kd = if ok = true then 2 else 0) (w : World) (hg : Gd w) (h : Sb B T k l st w) :
    Calls Tryd.prog 66 #[.pointer (some ⟨B, 0, none⟩)] w (ImP B T kd tn n ⟨#[]⟩ l st w) := by
  have hs : T.size = L.length := by rw [← hT]; simp
  have hk1 : k + 1 < L.length := lk_lt (by decide) hx0.2
  have hBlt : B < w.heap.size := h.lt
  have hnB : w.heap.size ≠ B := by omega
  have hz := Mz.start h
  have hsee := sees_run (l := l) (st := st) (B := B) ⟨#[48, 120]⟩ true (show k ≤ T.size by omega) (by
    rw [hT]
    refine (pre_two L k 48 120).2 ⟨?_, ?_⟩
    · rw [← hx0.1]; exact lk_at (by omega)
    · rw [← hx0.2]; exact lk_at hk1) _ hz.1.2
  obtain ⟨W0, hW0, HZ0⟩ : ∃ W0, W0 = w.alloc (.cells #[.int .i64 0, .int .i64 0, .int .i64 0, .int .i64 0, .int .i64 0, .string ⟨#[]⟩] 33) ∧ Hid (Mz B w.heap.size T k l st w W0) := ⟨_, rfl, hz⟩
  rw [← hW0] at hsee
  have hgz : ∀ m, Gd (W0.drewN m) := fun m => hg.kb hB ((show Mz B w.heap.size T k l st w W0 from HZ0).drewN m).1.1
  have hhx : ∀ m, Calls Tryd.prog 76 #[.pointer (some ⟨B, 0, none⟩)] (W0.drewN m) fun e w' => e = .returned (tokV kd 0 0 0 n ⟨#[]⟩) ∧ Mv B T (tn : Int) l st (W0.drewN m) w' :=
    fun m => impl_hex L hT hlen (by omega) hB hr kd hkd (W0.drewN m) (hgz m) ((show Mz B w.heap.size T k l st w W0 from HZ0).drewN m).1.2
  clear hT hlen hB hx0 hr hkd hg h hz hgz
  go_enter Tryd.func66, Tryd.ntmps66
  go_wp2_with fail
  rw [← hW0]
  clear hW0
  refine hsee.mono ?_
  rintro e w1 ⟨rfl, m, hw1⟩
  rw [hw1]
  have hh := hhx m
  have HZ1 : Hid (Mz B w.heap.size T k l st w (W0.drewN m)) := (show Mz B w.heap.size T k l st w W0 from HZ0).drewN m
  clear hsee HZ0 hw1 hhx
  generalize W0.drewN m = W1 at *
  go_wp2_with fail
  refine hh.mono ?_
  rintro e w2 ⟨rfl, m2⟩
  have HZ2 := (show Mz B w.heap.size T k l st w W1 from HZ1).trans m2 hnB
  have z3 := HZ2.2
  have g0 := z3.c0
  have g1 := z3.c1
  have g2 := z3.c2
  have g3 := z3.c3
  have g4 := z3.c4
  have g5 := z3.c5
  have v0 := z3.f0
  have v1 := z3.f1
  have v2 := z3.f2
  have v3 := z3.f3
  have v4 := z3.f4
  have v5 := z3.f5
  have e0 := st6_c0 z3
  have e1 := st6_c1 z3
  have e2 := st6_c2 z3
  have e3 := st6_c3 z3
  have e4 := st6_c4 z3
  have e5 := st6_c5 z3
  have HM4 : Hid (Mv B T (tn : Int) l st w w2) := HZ2.1
  clear z3 HZ2 hh m2 HZ1
  unfold tokV
  go_wp2_with fail
  refine bodyPost_ret (by simp [results, Tryd.results66, go_sem, e0, e1, e2, e3, e4, e5]; rfl) rfl ?_
  exact ⟨rfl, st6_mv HM4 (Nat.le_refl _) hnB _ _ _ _ _ _⟩
end Go.Proofs.YtogenhnonjkanaaDoor
namespace Go.Proofs.YtogenhnonjkanaaDoor
open Go.ChangeShapes Go.WideShapes Go.ChangeAt Go.RowKit
set_option linter.unusedVariables false
/-- the token that stands at a place, or the place where none can go on -/
inductive Tko (T : ByteArray) (L : List UInt8) (p : Nat) : Tk → Prop
  | nl : lk L p = 10 → Tko T L p ⟨7, p + 1, 0, ⟨#[]⟩⟩
  | word (m : Nat) : isL (lk L p) = true → Wm (T.extract p (en isW L p)) m → Tko T L p ⟨wkI m, en isW L p, 0, wkT m (T.extract p (en isW L p))⟩
  | num (kd : Int) (tn : Nat) (nu : Int) (tx : ByteArray) : isD (lk L p) = true → ¬ (lk L p = 48 ∧ lk L (p + 1) = 120) → Num T L p kd tn nu tx → Tko T L p ⟨kd, tn, nu, tx⟩
  | hex (ok : Bool) (tn : Nat) (n : Int) : lk L p = 48 ∧ lk L (p + 1) = 120 → Hx L p ok tn n → Tko T L p ⟨if ok = true then 2 else 0, tn, n, ⟨#[]⟩⟩
  | str (ok : Bool) (tn : Nat) (t : List UInt8) : lk L p = 34 → Sr L (p + 1) [] ok tn t → Tko T L p ⟨if ok = true then 4 else 0, tn, 0, ⟨t.toArray⟩⟩
  | sign (m : Nat) (kd : Int) (tn : Nat) : lk L p ≠ 10 → isL (lk L p) = false → isD (lk L p) = false → lk L p ≠ 34 → Sm (L.drop p) m → (m < 30 ∧ kd = ssv (sgnL.getD m []) ∧ tn = p + (sgnL.getD m []).length ∨ ¬ m < 30 ∧ kd = 0 ∧ tn = p) → Tko T L p ⟨kd, tn, 0, ⟨#[]⟩⟩
theorem tko_any (T : ByteArray) (L : List UInt8) (p : Nat) (hp : p < L.length) : ∃ t, Tko T L p t := by
  by_cases h10 : lk L p = 10
  · exact ⟨_, .nl h10⟩
  cases hL : isL (lk L p) with
  | true =>
    obtain ⟨m, hm⟩ := wm_any (T.extract p (en isW L p))
    exact ⟨_, .word m hL hm⟩
  | false =>
    cases hD : isD (lk L p) with
    | true =>
      by_cases hx : lk L p = 48 ∧ lk L (p + 1) = 120
      · have := lk_lt (L := L) (k := p + 1) (c := 120) (by decide) hx.2
        obtain ⟨ok, tn, n, h⟩ := hx_any L p (by omega)
        exact ⟨_, .hex ok tn n hx h⟩
      · obtain ⟨k, tn, n, x, h⟩ := num_any T L p
        exact ⟨_, .num k tn n x hD hx h⟩
    | false =>
      by_cases h34 : lk L p = 34
      · obtain ⟨ok, tn, t, h⟩ := sr_any L L.length (p + 1) [] (by omega)
        exact ⟨_, .str ok tn t h34 h⟩
      · obtain ⟨m, hm⟩ := sm_any (L.drop p)
        by_cases h30 : m < 30
        · exact ⟨_, .sign m _ _ h10 hL hD h34 hm (.inl ⟨h30, rfl, rfl⟩)⟩
        · exact ⟨_, .sign m _ _ h10 hL hD h34 hm (.inr ⟨h30, rfl, rfl⟩)⟩
theorem tk_any (T : ByteArray) (L : List UInt8) : ∃ tk : Nat → Tk, ∀ p, p < L.length → Tko T L p (tk p) :=
  ⟨fun p => if h : p < L.length then Classical.choose (tko_any T L p h) else ⟨0, 0, 0, ⟨#[]⟩⟩, fun p hp => by
    show Tko T L p (if h : p < L.length then Classical.choose (tko_any T L p h) else ⟨0, 0, 0, ⟨#[]⟩⟩)
    rw [dif_pos hp]
    exact Classical.choose_spec (tko_any T L p hp)⟩
theorem isL_not {c : UInt8} (h : isD c = true) : isL c = false := by
  have := digit_nat h
  unfold isL
  simp
  omega
theorem Tko.ok {T : ByteArray} {L : List UInt8} {p : Nat} {t : Tk} (h : Tko T L p t) (hp : p < L.length) : (t.kind ≠ 0 → p < t.to) ∧ t.to ≤ L.length := by
  cases h with
  | nl _ => exact ⟨fun _ => Nat.lt_succ_self _, hp⟩
  | word m hL _ =>
    have hW : isW (lk L p) = true := by unfold isW; rw [hL]; rfl
    obtain ⟨h1, h2⟩ := en_at (p := isW) isW_zero hW
    have h3 := en_ge isW L (p + 1)
    exact ⟨fun _ => by show p < en isW L p; omega, en_le _ _ _ (by omega)⟩
  | num kd tn nu tx hD _ hn =>
    have key : p < tn ∧ tn ≤ L.length := by
      cases hn with
      | bad _ nb => exact nb.le hp
      | flt _ nb => exact nb.le hp
      | int _ v nb hv => exact nb.le hp
      | big _ nb hv => exact nb.le hp
    exact ⟨fun _ => key.1, key.2⟩
  | hex ok tn n hx h =>
    have h1 := lk_lt (L := L) (k := p + 1) (c := 120) (by decide) hx.2
    have h2 := en_le (dgb 16) L (p + 2) (by omega)
    have h3 := en_ge (dgb 16) L (p + 2)
    cases h with
    | none g => exact ⟨fun _ => by show p < p + 2; omega, by show p + 2 ≤ _; omega⟩
    | many g => exact ⟨fun _ => by show p < p + 18; omega, by show p + 18 ≤ _; omega⟩
    | some e v g1 g2 g3 g4 => exact ⟨fun _ => by show p < tn; omega, by show tn ≤ _; omega⟩
  | str ok tn t _ h =>
    have := h.le (by omega)
    exact ⟨fun _ => by show p < tn; omega, this.2.1⟩
  | sign m kd tn _ _ _ _ hm hk =>
    rcases hk with ⟨h30, h1, h2⟩ | ⟨_, h1, h2⟩
    · have h3 := sgn_pos h30
      have hle : (sgnL.getD m []).length ≤ L.length - p := by
        have := congrArg List.length (eq_of_beq (hm.2.2.resolve_left (by omega)))
        rw [List.length_take, List.length_drop] at this
        omega
      exact ⟨fun _ => by show p < tn; omega, by show tn ≤ _; omega⟩
    · exact ⟨fun g => absurd h1 g, by show tn ≤ _; omega⟩
theorem tko_ok {T : ByteArray} {L : List UInt8} {tk : Nat → Tk} (h : ∀ p, p < L.length → Tko T L p (tk p)) : TkOk L tk :=
  ⟨fun p hp => ((h p hp).ok hp).1, fun p hp => ((h p hp).ok hp).2⟩
theorem wkI_ne (m : Nat) : wkI m ≠ 0 := by unfold wkI; split <;> omega
theorem tko_spec {T : ByteArray} {L : List UInt8} (hT : T.data.toList = L) (hlen : L.length ≤ 65536) {tk : Nat → Tk} (h : ∀ p, p < L.length → Tko T L p (tk p)) : TokS T L tk := by
  intro p w hp
  have key : ∀ t : Tk, Tko T L p t → Calls Tryd.prog 15 #[.string T, .int .i64 (p : Int)] w (NumP w t.kind p t.to t.num t.text) := by
    intro t ht
    cases ht with
    | nl h10 => exact read_nl T L hT hlen p hp h10 ⟨rfl, rfl, rfl, rfl⟩ w
    | word m hL hm =>
      refine read_word T L hT hlen p hp (fun g => by rw [g] at hL; exact absurd hL (by decide)) hL (fun W => ?_) w
      exact (spec_word T L hT hlen p m (by omega) hm W).mono fun e w' hh => ⟨hh.2, fun _ => hh.1, fun g => absurd g (wkI_ne m)⟩
    | num kd tn nu tx hD hx hn =>
      refine readn T L hT hlen p hp (fun g => by rw [g] at hD; exact absurd hD (by decide)) (isL_not hD) hD (fun W => ?_) w
      exact spec_num T L hT hlen p hD hx hn W
    | hex ok tn n hx hh =>
      refine readn T L hT hlen p hp (fun g => by rw [hx.1] at g; exact absurd g (by decide)) (by rw [hx.1]; decide) (by rw [hx.1]; decide) (fun W => ?_) w
      exact spec_numx T L hT hlen p hx hh _ rfl W
    | str ok tn t h34 hh =>
      refine read_str T L hT hlen p hp (by rw [h34]; decide) (by rw [h34]; decide) h34 (fun W => ?_) w
      exact spec_string T L hT hlen p hp hh _ rfl W
    | sign m kd tn h10 hL hD h34 hm hk => exact read_sign T L hT hlen p hp h10 hL hD h34 hm ⟨hk, rfl, rfl⟩ w
  exact key (tk p) (h p hp)
theorem tko_impl {B : Nat} {T : ByteArray} {L : List UInt8} (hT : T.data.toList = L) (hlen : L.length ≤ 65536) (hB : 8 ≤ B) {tk : Nat → Tk} (h : ∀ p, p < L.length → Tko T L p (tk p)) : TokC B T L tk := by
  have hs : T.size = L.length := by rw [← hT]; simp
  have hl2 : T.size ≤ 65536 := by omega
  refine impl_token L tk hB hlen (fun p hp => (tko_ok h).le p hp) (fun p hp => ?_)
  have hx := lk_at hp
  have hne34 : lk L p ≠ 34 → ((lk L p).toNat == 34) = false := fun g => by simp; intro e; exact g (UInt8.toNat_inj.1 (show (lk L p).toNat = 34 from e))
  have hdrop : (L.drop p).head? = some (lk L p) := by rw [List.head?_drop]; exact hx
  have key : ∀ t : Tk, Tko T L p t → PartC 58 B T p t := by
    intro t ht
    cases ht with
    | nl h10 =>
      refine alone_sign L hT p _ hx (by rw [h10]; decide) (by rw [h10]; decide) (by rw [h10]; decide) hB _ ?_
      intro l w hg hsb
      have := impl_signs L hT hl2 (Nat.le_of_lt hp) hB w hg hsb
      rw [sign_nl (by rw [hdrop, h10])] at this
      exact this
    | word m hL hm =>
      refine alone_word L hT p _ hx hL hB _ ?_
      intro l w hg hsb
      exact impl_word L hT hl2 m (Nat.le_of_lt hp) hm hB w hg hsb
    | num kd tn nu tx hD hx0 hn =>
      refine alone_num L hT p _ hx (isL_not hD) hD hB _ ?_
      intro l w hg hsb
      exact impl_num L hT hl2 hB hD hx0 hn w hg hsb
    | hex ok tn n hx0 hh =>
      refine alone_num L hT p _ hx (by rw [hx0.1]; decide) (by rw [hx0.1]; decide) hB _ ?_
      intro l w hg hsb
      exact impl_numx L hT hl2 hB hx0 hh _ rfl w hg hsb
    | str ok tn t h34 hh =>
      refine alone_str L hT p _ hx (by rw [h34]; decide) (by rw [h34]; decide) (by rw [h34]; decide) hB _ ?_
      intro l w hg hsb
      exact impl_str L hT hl2 hp hB hh _ rfl w hsb
    | sign m kd tn h10 hL hD h34 hm hk =>
      refine alone_sign L hT p _ hx hL hD (hne34 h34) hB _ ?_
      intro l w hg hsb
      have := impl_signs L hT hl2 (Nat.le_of_lt hp) hB w hg hsb
      rw [sign_eq hm (by rw [hdrop]; intro g; exact h10 (Option.some.inj g))] at this
      rcases hk with ⟨h30, rfl, rfl⟩ | ⟨h30, rfl, rfl⟩
      · rw [if_pos h30] at this; exact this
      · rw [if_neg h30] at this; exact this
  exact key (tk p) (h p hp)
end Go.Proofs.YtogenhnonjkanaaDoor
