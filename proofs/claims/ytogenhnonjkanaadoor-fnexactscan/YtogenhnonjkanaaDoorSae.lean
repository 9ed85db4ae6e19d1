import Derived.Test.YtogenhnonjkanaaDoorSad
namespace Go.Proofs.YtogenhnonjkanaaDoor
open Go.ChangeShapes Go.WideShapes Go.ChangeAt Go.RowKit
set_option linter.unusedVariables false
theorem pre_one (L : List UInt8) (k : Nat) (a : UInt8) : pre L k [a] = true ↔ L[k]? = some a := by
  unfold pre
  cases h : L[k]? with
  | none => rw [List.drop_eq_nil_of_le (List.getElem?_eq_none_iff.1 h)]; simp
  | some x => rw [drop_cons h]; simp
theorem pre_two (L : List UInt8) (k : Nat) (a b : UInt8) : pre L k [a, b] = true ↔ L[k]? = some a ∧ L[k + 1]? = some b := by
  unfold pre
  cases h : L[k]? with
  | none => rw [List.drop_eq_nil_of_le (List.getElem?_eq_none_iff.1 h)]; simp
  | some x =>
    rw [drop_cons h]
    cases h2 : L[k + 1]? with
    | none => rw [List.drop_eq_nil_of_le (List.getElem?_eq_none_iff.1 h2)]; simp
    | some y => rw [drop_cons h2]; simp
def atOf (B : Nat) (w : World) : Nat := match w.cell? ⟨B, 1, none⟩ with
  | some (.int _ k) => k.toNat
  | _ => 0
theorem atOf_sb {B : Nat} {T : ByteArray} {k l : Int} {st : Bool} {w : World} (h : Sb B T k l st w) : atOf B w = k.toNat := by
  unfold atOf; rw [h.c1]
/-- what a moving function leaves -/
def Mv (B : Nat) (T : ByteArray) (k l : Int) (st : Bool) (w w' : World) : Prop := Kb B w w' ∧ Sb B T k l st w'
theorem Mv.trans {B : Nat} {T : ByteArray} {k l k' l' : Int} {st st' : Bool} {a b c : World} (h : Mv B T k l st a b) (g : Mv B T k' l' st' b c) : Mv B T k' l' st' a c := ⟨h.1.trans g.1, g.2⟩
theorem Mv.refl {B : Nat} {T : ByteArray} {k l : Int} {st : Bool} {w : World} (h : Sb B T k l st w) : Mv B T k l st w w := ⟨Kb.refl B w, h⟩
theorem Mv.below {B n : Nat} {T : ByteArray} {k l : Int} {st : Bool} {w w' : World} (h : Sb B T k l st w) (hb : Below n w w') (hn : w.heap.size ≤ n) : Mv B T k l st w w' := ⟨Kb.of_below hb hn, h.below hb hn⟩
theorem Mv.drew {B : Nat} {T : ByteArray} {k l : Int} {st : Bool} {w w' : World} (h : Sb B T k l st w) (hw : ∃ m, w' = w.drewN m) : Mv B T k l st w w' := by
  obtain ⟨m, rfl⟩ := hw
  exact ⟨(Kb.refl B w).drewN m, h⟩
theorem ended_mv {B : Nat} {T : ByteArray} {k l : Int} {st : Bool} (z : Bool) (hz : (k == (T.size : Int)) = z) (w : World) (h : Sb B T k l st w) :
    Calls Tryd.prog 40 #[.pointer (some ⟨B, 0, none⟩)] w fun e w' => e = .returned (.bool z) ∧ Mv B T k l st w w' :=
  (ended_run B T k l st z hz w h).mono fun e w' hh => ⟨hh.1, Mv.drew h hh.2⟩
theorem sees_mv {B : Nat} {T : ByteArray} {k : Nat} {l : Int} {st : Bool} (p : ByteArray) (z : Bool) (hk : k ≤ T.size) (hz : pre T.data.toList k p.data.toList = z) (w : World) (h : Sb B T k l st w) :
    Calls Tryd.prog 62 #[.pointer (some ⟨B, 0, none⟩), .string p] w fun e w' => e = .returned (.bool z) ∧ Mv B T k l st w w' :=
  (sees_run p z hk hz w h).mono fun e w' hh => ⟨hh.1, Mv.drew h hh.2⟩
/-- taking a byte -/
theorem take_mv {B : Nat} {T : ByteArray} {k : Nat} {l : Int} {st : Bool} (c : UInt8) (ci : Int) (hci : ci = (c.toNat : Int)) (z : Bool) (k' : Nat) (hlen : T.size ≤ 65536) (hk : k ≤ T.size)
    (hz : (T.data.toList[k]? = some c ∧ z = true ∧ k' = k + 1) ∨ (T.data.toList[k]? ≠ some c ∧ z = false ∧ k' = k)) (w : World) (h : Sb B T k l st w) :
    Calls Tryd.prog 56 #[.pointer (some ⟨B, 0, none⟩), .int .u8 ci] w fun e w' => e = .returned (.bool z) ∧ Mv B T k' l st w w' := by
  subst hci
  rcases hz with ⟨h1, rfl, rfl⟩ | ⟨h1, rfl, rfl⟩
  · exact (take_yes c hlen h1 w h).mono fun e w' hh => ⟨hh.1, hh.2.1, hh.2.2⟩
  · cases hx : T.data.toList[k']? with
    | none =>
      have : T.size ≤ k' := by have := List.getElem?_eq_none_iff.1 hx; simpa using this
      exact (take_end _ (by omega) w h).mono fun e w' hh => ⟨hh.1, Mv.drew h hh.2⟩
    | some x =>
      refine (take_no _ x hx ?_ w h).mono fun e w' hh => ⟨hh.1, Mv.drew h hh.2⟩
      simp
      intro g
      exact h1 (by rw [hx, UInt8.toNat_inj.1 (show x.toNat = c.toNat by omega)])
theorem remark_no {B : Nat} {T : ByteArray} {k : Nat} {l : Int} {st : Bool} (hk : k ≤ T.size) (hz : pre T.data.toList k [45, 45] = false) (w : World) (h : Sb B T k l st w) :
    Calls Tryd.prog 57 #[.pointer (some ⟨B, 0, none⟩)] w fun e w' => e = .returned (.bool false) ∧ Mv B T k l st w w' := by
  have hs := sees_mv ⟨#[45, 45]⟩ false hk hz w h
  clear h hz
  go_enter Tryd.func57, Tryd.ntmps57
  go_wp2_with fail
  refine hs.mono ?_
  rintro e w1 ⟨rfl, hm⟩
  clear hs
  go_wp2_with fail
  go_ret
  exact ⟨rfl, hm⟩
set_option maxRecDepth 100000 in
set_option maxHeartbeats 1000000 in
theorem remark_yes {B : Nat} {T : ByteArray} (L : List UInt8) (hT : T.data.toList = L) {k : Nat} {l : Int} {st : Bool} (hlen : T.size ≤ 65536) (hk : k ≤ T.size) (hz : pre L k [45, 45] = true) (w : World) (h : Sb B T k l st w) :
    Calls Tryd.prog 57 #[.pointer (some ⟨B, 0, none⟩)] w fun e w' => e = .returned (.bool true) ∧ Mv B T (rem L k : Nat) l st w w' := by
  have hsz : T.size = L.length := by rw [← hT]; simp
  have hs := sees_mv ⟨#[45, 45]⟩ true hk (by rw [hT]; exact hz) w h
  obtain ⟨M, hM, hLM⟩ : ∃ M : Int, M ≤ 65536 ∧ (L.length : Int) ≤ M := ⟨L.length, by omega, Int.le_refl _⟩
  clear h hz hlen
  go_enter Tryd.func57, Tryd.ntmps57
  go_wp2_with fail
  refine hs.mono ?_
  rintro e w1 ⟨rfl, hm⟩
  have HS : Hid (Mv B T k l st w w1) := hm
  clear hs hm
  go_wp2_with fail
  go_loopw [] (fun wr => ∃ j : Nat, k ≤ j ∧ j ≤ L.length ∧ Hid (Mv B T j l st w wr ∧ rem L k = rem L j)) (fun wr => L.length - atOf B wr)
  case atStart => exact ⟨k, Nat.le_refl _, by omega, (⟨HS, rfl⟩ : Mv B T k l st w w1 ∧ rem L k = rem L k)⟩
  case round =>
    clear HS
    obtain ⟨j, hkj, hj, HR⟩ := hrel
    obtain ⟨hK, hR⟩ := (show Mv B T j l st w wr ∧ rem L k = rem L j from HR)
    clear HR
    have hat := atOf_sb hK.2
    by_cases hjn : j < L.length
    · have hx := List.getElem?_eq_getElem hjn
      have he := ended_mv false (by simp; omega) wr hK.2
      have hjM : (j : Int) < M := by omega
      generalize L[j] = x at hx
      by_cases h10 : x.toNat = 10
      · have hx10 : x = 10 := UInt8.toNat_inj.1 h10
        subst hx10
        have hp := fun w1 (h1 : Mv B T j l st wr w1) => sees_mv ⟨#[10]⟩ true (by omega) (by rw [hT]; exact (pre_one L j 10).2 hx) w1 h1.2
        have HF : Hid (∀ w1, Mv B T j l st wr w1 → Mv B T (rem L k : Nat) l st w w1) := (fun w1 h1 => by rw [hR, rem_nl hx h10]; exact hK.trans h1 : ∀ w1, Mv B T j l st wr w1 → Mv B T (rem L k : Nat) l st w w1)
        clear hx hK hR hat h10
        go_wp2_with fail
        refine he.mono ?_
        rintro e w1 ⟨rfl, m1⟩
        have hp1 := hp w1 m1
        clear he hp
        go_wp2_with fail
        refine hp1.mono ?_
        rintro e w2 ⟨rfl, m2⟩
        have hF := (show ∀ w1, Mv B T j l st wr w1 → Mv B T (rem L k : Nat) l st w w1 from HF) w2 (m1.trans m2)
        clear hp1 HF m1 m2
        go_wp2_with fail
        go_ret
        exact ⟨rfl, hF⟩
      · have hp := fun w1 (h1 : Mv B T j l st wr w1) => sees_mv ⟨#[10]⟩ false (by omega) (by rw [hT, Bool.eq_false_iff]; intro g; have g2 := (pre_one L j 10).1 g; rw [hx] at g2; cases g2; exact h10 rfl) w1 h1.2
        have HF : Hid (∀ w1, Mv B T j l st wr w1 → Mv B T ((j + 1 : Nat) : Int) l st w (w1.setCell ⟨B, 1, none⟩ (.int .i64 ((j : Int) + 1))) ∧ rem L k = rem L (j + 1)) :=
          (fun w1 h1 => ⟨⟨(hK.trans h1).1.setCell 1 _, h1.2.set1 _⟩, hR.trans (rem_step hx h10)⟩ : ∀ w1, Mv B T j l st wr w1 → Mv B T ((j + 1 : Nat) : Int) l st w (w1.setCell ⟨B, 1, none⟩ (.int .i64 ((j : Int) + 1))) ∧ rem L k = rem L (j + 1))
        clear hx hK hR h10
        go_wp2_with fail
        refine he.mono ?_
        rintro e w1 ⟨rfl, m1⟩
        have hp1 := hp w1 m1
        clear he hp
        go_wp2_with fail
        refine hp1.mono ?_
        rintro e w2 ⟨rfl, m2⟩
        have c1 := m2.2.c1
        have f1 := m2.2.fz 1
        have hF := (show ∀ w1, Mv B T j l st wr w1 → Mv B T ((j + 1 : Nat) : Int) l st w (w1.setCell ⟨B, 1, none⟩ (.int .i64 ((j : Int) + 1))) ∧ rem L k = rem L (j + 1) from HF) w2 (m1.trans m2)
        have hat2 := atOf_sb hF.1.2
        have HF2 : Hid (Mv B T ((j + 1 : Nat) : Int) l st w (w2.setCell ⟨B, 1, none⟩ (.int .i64 ((j : Int) + 1))) ∧ rem L k = rem L (j + 1)) := hF
        clear hp1 HF m1 m2 hF
        go_wp2_with fail
        refine ⟨⟨j + 1, by omega, by omega, HF2⟩, ?_⟩
        rw [hat2, hat]
        omega
    · have he := ended_mv true (by simp; omega) wr hK.2
      have HF : Hid (∀ w1, Mv B T j l st wr w1 → Mv B T (rem L k : Nat) l st w w1) := (fun w1 h1 => by rw [hR, rem_end (by omega)]; exact hK.trans h1 : ∀ w1, Mv B T j l st wr w1 → Mv B T (rem L k : Nat) l st w w1)
      clear hK hR hat
      go_wp2_with fail
      refine he.mono ?_
      rintro e w1 ⟨rfl, m1⟩
      have hF := (show ∀ w1, Mv B T j l st wr w1 → Mv B T (rem L k : Nat) l st w w1 from HF) w1 m1
      clear he HF m1
      go_wp2_with fail
      go_ret
      exact ⟨rfl, hF⟩
set_option maxRecDepth 100000 in
set_option maxHeartbeats 1000000 in
theorem impl_blanks {B : Nat} {T : ByteArray} (L : List UInt8) (hT : T.data.toList = L) {k : Nat} {l : Int} {st : Bool} (hlen : T.size ≤ 65536) (hk : k ≤ T.size) (w : World) (h : Sb B T k l st w) :
    Calls Tryd.prog 39 #[.pointer (some ⟨B, 0, none⟩)] w fun e w' => e = .returned (.tuple #[]) ∧ Mv B T (bl L k : Nat) l st w w' := by
  have hsz : T.size = L.length := by rw [← hT]; simp
  have HS : Hid (Mv B T k l st w w) := Mv.refl h
  have HLN : Hid (T.size ≤ 65536) := hlen
  clear h hlen
  go_enter Tryd.func39, Tryd.ntmps39
  go_wp2_with fail
  go_loopw [] (fun wr => ∃ j : Nat, j ≤ L.length ∧ Hid (Mv B T j l st w wr ∧ bl L k = bl L j)) (fun wr => L.length - atOf B wr)
  case atStart => exact ⟨k, by omega, (⟨HS, rfl⟩ : Mv B T k l st w w ∧ bl L k = bl L k)⟩
  case round =>
    clear HS
    obtain ⟨j, hj, HR⟩ := hrel
    obtain ⟨hK, hR⟩ := (show Mv B T j l st w wr ∧ bl L k = bl L j from HR)
    clear HR
    have hat := atOf_sb hK.2
    have hlen := (show T.size ≤ 65536 from HLN)
    have HT := fun (c : UInt8) (z : Bool) (k' : Nat) hz w1 (h1 : Mv B T j l st wr w1) => take_mv (B := B) (T := T) (k := j) (l := l) (st := st) c (c.toNat : Int) rfl z k' hlen (by omega) hz w1 h1.2
    rw [hT] at HT
    have step : ∀ j' : Nat, bl L j = bl L j' → j' ≤ L.length → j < j' → Hid (∀ w1, Mv B T j' l st wr w1 → (∃ j : Nat, j ≤ L.length ∧ Hid (Mv B T j l st w w1 ∧ bl L k = bl L j)) ∧ L.length - atOf B w1 < L.length - atOf B wr) := fun j' e1 e2 e3 =>
      (fun w1 h1 => ⟨⟨j', e2, (⟨hK.trans h1, hR.trans e1⟩ : _ ∧ _)⟩, by rw [atOf_sb h1.2, hat]; omega⟩ : ∀ w1, Mv B T j' l st wr w1 → (∃ j : Nat, j ≤ L.length ∧ Hid (Mv B T j l st w w1 ∧ bl L k = bl L j)) ∧ L.length - atOf B w1 < L.length - atOf B wr)
    have stop : bl L j = j → Hid (∀ w1, Mv B T j l st wr w1 → Mv B T (bl L k : Nat) l st w w1) := fun e => (fun w1 h1 => by rw [hR, e]; exact hK.trans h1 : ∀ w1, Mv B T j l st wr w1 → Mv B T (bl L k : Nat) l st w w1)
    have h0 := Mv.refl hK.2
    by_cases hjn : j < L.length
    · have hx := List.getElem?_eq_getElem hjn
      generalize L[j] = x at hx
      by_cases hb32 : x = 32
      · subst hb32
        have t0 : ∀ w1, Mv B T j l st wr w1 → Calls Tryd.prog 56 #[.pointer (some ⟨B, 0, none⟩), .int .u8 32] w1 fun e w' => e = .returned (.bool true) ∧ Mv B T ((j + 1) : Nat) l st w1 w' := fun w1 h1 => HT 32 true (j + 1) (.inl ⟨hx, rfl, rfl⟩) w1 h1
        have HF := step (j + 1) (bl_blank hx (by decide)) (by omega) (by omega)
        clear HT hK hR hat step stop hx
        go_wp2_with fail
        refine (t0 _ h0).mono ?_
        rintro e w1 ⟨rfl, m1⟩
        have hF := (show ∀ w1, Mv B T ((j + 1 : Nat) : Int) l st wr w1 → _ from HF) _ (h0.trans m1)
        clear HF m1 t0 h0
        go_wp2_with fail
        exact hF
      by_cases hb9 : x = 9
      · subst hb9
        have t0 : ∀ w1, Mv B T j l st wr w1 → Calls Tryd.prog 56 #[.pointer (some ⟨B, 0, none⟩), .int .u8 32] w1 fun e w' => e = .returned (.bool false) ∧ Mv B T (j : Nat) l st w1 w' := fun w1 h1 => HT 32 false j (.inr ⟨by rw [hx]; decide, rfl, rfl⟩) w1 h1
        have t1 : ∀ w1, Mv B T j l st wr w1 → Calls Tryd.prog 56 #[.pointer (some ⟨B, 0, none⟩), .int .u8 9] w1 fun e w' => e = .returned (.bool true) ∧ Mv B T ((j + 1) : Nat) l st w1 w' := fun w1 h1 => HT 9 true (j + 1) (.inl ⟨hx, rfl, rfl⟩) w1 h1
        have HF := step (j + 1) (bl_blank hx (by decide)) (by omega) (by omega)
        clear HT hK hR hat step stop hx
        go_wp2_with fail
        refine (t0 _ h0).mono ?_
        rintro e w1 ⟨rfl, m1⟩
        have n1 := h0.trans m1
        clear h0 m1 t0
        go_wp2_with fail
        refine (t1 _ n1).mono ?_
        rintro e w2 ⟨rfl, m2⟩
        have hF := (show ∀ w1, Mv B T ((j + 1 : Nat) : Int) l st wr w1 → _ from HF) _ (n1.trans m2)
        clear HF m2 t1 n1
        go_wp2_with fail
        exact hF
      by_cases hb13 : x = 13
      · subst hb13
        have t0 : ∀ w1, Mv B T j l st wr w1 → Calls Tryd.prog 56 #[.pointer (some ⟨B, 0, none⟩), .int .u8 32] w1 fun e w' => e = .returned (.bool false) ∧ Mv B T (j : Nat) l st w1 w' := fun w1 h1 => HT 32 false j (.inr ⟨by rw [hx]; decide, rfl, rfl⟩) w1 h1
        have t1 : ∀ w1, Mv B T j l st wr w1 → Calls Tryd.prog 56 #[.pointer (some ⟨B, 0, none⟩), .int .u8 9] w1 fun e w' => e = .returned (.bool false) ∧ Mv B T (j : Nat) l st w1 w' := fun w1 h1 => HT 9 false j (.inr ⟨by rw [hx]; decide, rfl, rfl⟩) w1 h1
        have t2 : ∀ w1, Mv B T j l st wr w1 → Calls Tryd.prog 56 #[.pointer (some ⟨B, 0, none⟩), .int .u8 13] w1 fun e w' => e = .returned (.bool true) ∧ Mv B T ((j + 1) : Nat) l st w1 w' := fun w1 h1 => HT 13 true (j + 1) (.inl ⟨hx, rfl, rfl⟩) w1 h1
        have HF := step (j + 1) (bl_blank hx (by decide)) (by omega) (by omega)
        clear HT hK hR hat step stop hx
        go_wp2_with fail
        refine (t0 _ h0).mono ?_
        rintro e w1 ⟨rfl, m1⟩
        have n1 := h0.trans m1
        clear h0 m1 t0
        go_wp2_with fail
        refine (t1 _ n1).mono ?_
        rintro e w2 ⟨rfl, m2⟩
        have n2 := n1.trans m2
        clear n1 m2 t1
        go_wp2_with fail
        refine (t2 _ n2).mono ?_
        rintro e w3 ⟨rfl, m3⟩
        have hF := (show ∀ w1, Mv B T ((j + 1 : Nat) : Int) l st wr w1 → _ from HF) _ (n2.trans m3)
        clear HF m3 t2 n2
        go_wp2_with fail
        exact hF
      by_cases hp : pre L j [45, 45] = true
      · obtain ⟨p1, p2⟩ := (pre_two L j 45 45).1 hp
        obtain ⟨r1, r2, r3⟩ := bl_remark p1 p2
        have hr4 := rem_le L j hj
        have t0 : ∀ w1, Mv B T j l st wr w1 → Calls Tryd.prog 56 #[.pointer (some ⟨B, 0, none⟩), .int .u8 32] w1 fun e w' => e = .returned (.bool false) ∧ Mv B T j l st w1 w' := fun w1 h1 => HT 32 false j (.inr ⟨by rw [hx]; intro g; exact hb32 (Option.some.inj g), rfl, rfl⟩) w1 h1
        have t1 : ∀ w1, Mv B T j l st wr w1 → Calls Tryd.prog 56 #[.pointer (some ⟨B, 0, none⟩), .int .u8 9] w1 fun e w' => e = .returned (.bool false) ∧ Mv B T j l st w1 w' := fun w1 h1 => HT 9 false j (.inr ⟨by rw [hx]; intro g; exact hb9 (Option.some.inj g), rfl, rfl⟩) w1 h1
        have t2 : ∀ w1, Mv B T j l st wr w1 → Calls Tryd.prog 56 #[.pointer (some ⟨B, 0, none⟩), .int .u8 13] w1 fun e w' => e = .returned (.bool false) ∧ Mv B T j l st w1 w' := fun w1 h1 => HT 13 false j (.inr ⟨by rw [hx]; intro g; exact hb13 (Option.some.inj g), rfl, rfl⟩) w1 h1
        have t3 := fun w1 (h1 : Mv B T j l st wr w1) => remark_yes L hT hlen (by omega) hp w1 h1.2
        have HF := step (rem L j) (r1.trans r2.symm) hr4 r3
        clear hp p1 p2 r1 r2 r3 hr4 hx hlen hb32 hb9 hb13
        clear HT hK hR hat step stop
        go_wp2_with fail
        refine (t0 _ h0).mono ?_
        rintro e w1 ⟨rfl, m1⟩
        have n1 := h0.trans m1
        clear h0 m1 t0
        go_wp2_with fail
        refine (t1 _ n1).mono ?_
        rintro e w2 ⟨rfl, m2⟩
        have n2 := n1.trans m2
        clear n1 m2 t1
        go_wp2_with fail
        refine (t2 _ n2).mono ?_
        rintro e w3 ⟨rfl, m3⟩
        have n3 := n2.trans m3
        clear n2 m3 t2
        go_wp2_with fail
        refine (t3 _ n3).mono ?_
        rintro e w4 ⟨rfl, m4⟩
        have hF := (show ∀ w1, Mv B T (rem L j : Nat) l st wr w1 → _ from HF) _ (n3.trans m4)
        clear HF m4 t3 n3
        go_wp2_with fail
        exact hF
      · have hp2 : pre L j [45, 45] = false := by simpa using hp
        have t0 : ∀ w1, Mv B T j l st wr w1 → Calls Tryd.prog 56 #[.pointer (some ⟨B, 0, none⟩), .int .u8 32] w1 fun e w' => e = .returned (.bool false) ∧ Mv B T j l st w1 w' := fun w1 h1 => HT 32 false j (.inr ⟨by rw [hx]; intro g; exact hb32 (Option.some.inj g), rfl, rfl⟩) w1 h1
        have t1 : ∀ w1, Mv B T j l st wr w1 → Calls Tryd.prog 56 #[.pointer (some ⟨B, 0, none⟩), .int .u8 9] w1 fun e w' => e = .returned (.bool false) ∧ Mv B T j l st w1 w' := fun w1 h1 => HT 9 false j (.inr ⟨by rw [hx]; intro g; exact hb9 (Option.some.inj g), rfl, rfl⟩) w1 h1
        have t2 : ∀ w1, Mv B T j l st wr w1 → Calls Tryd.prog 56 #[.pointer (some ⟨B, 0, none⟩), .int .u8 13] w1 fun e w' => e = .returned (.bool false) ∧ Mv B T j l st w1 w' := fun w1 h1 => HT 13 false j (.inr ⟨by rw [hx]; intro g; exact hb13 (Option.some.inj g), rfl, rfl⟩) w1 h1
        have t3 := fun w1 (h1 : Mv B T j l st wr w1) => remark_no (by omega) (by rw [hT]; exact hp2) w1 h1.2
        have HF := stop (bl_other hx (by intro g; rcases g with g | g | g; exact hb32 (UInt8.toNat_inj.1 g); exact hb9 (UInt8.toNat_inj.1 g); exact hb13 (UInt8.toNat_inj.1 g)) (fun g => hp ((pre_two L j 45 45).2 ⟨by rw [hx, UInt8.toNat_inj.1 (show x.toNat = (45 : UInt8).toNat from g.1)], g.2⟩)))
        clear hp hp2 hx hlen hb32 hb9 hb13
        clear HT hK hR hat step stop
        go_wp2_with fail
        refine (t0 _ h0).mono ?_
        rintro e w1 ⟨rfl, m1⟩
        have n1 := h0.trans m1
        clear h0 m1 t0
        go_wp2_with fail
        refine (t1 _ n1).mono ?_
        rintro e w2 ⟨rfl, m2⟩
        have n2 := n1.trans m2
        clear n1 m2 t1
        go_wp2_with fail
        refine (t2 _ n2).mono ?_
        rintro e w3 ⟨rfl, m3⟩
        have n3 := n2.trans m3
        clear n2 m3 t2
        go_wp2_with fail
        refine (t3 _ n3).mono ?_
        rintro e w4 ⟨rfl, m4⟩
        have hF := (show ∀ w1, Mv B T j l st wr w1 → _ from HF) _ (n3.trans m4)
        clear HF m4 t3 n3
        go_wp2_with fail
        go_end0
        exact ⟨rfl, hF⟩
    · have hx : L[j]? = none := List.getElem?_eq_none_iff.2 (by omega)
      have hp2 : pre L j [45, 45] = false := by rw [Bool.eq_false_iff]; intro g; have := ((pre_two L j 45 45).1 g).1; rw [hx] at this; cases this
      have t0 : ∀ w1, Mv B T j l st wr w1 → Calls Tryd.prog 56 #[.pointer (some ⟨B, 0, none⟩), .int .u8 32] w1 fun e w' => e = .returned (.bool false) ∧ Mv B T j l st w1 w' := fun w1 h1 => HT 32 false j (.inr ⟨(by rw [hx]; intro g; cases g), rfl, rfl⟩) w1 h1
      have t1 : ∀ w1, Mv B T j l st wr w1 → Calls Tryd.prog 56 #[.pointer (some ⟨B, 0, none⟩), .int .u8 9] w1 fun e w' => e = .returned (.bool false) ∧ Mv B T j l st w1 w' := fun w1 h1 => HT 9 false j (.inr ⟨(by rw [hx]; intro g; cases g), rfl, rfl⟩) w1 h1
      have t2 : ∀ w1, Mv B T j l st wr w1 → Calls Tryd.prog 56 #[.pointer (some ⟨B, 0, none⟩), .int .u8 13] w1 fun e w' => e = .returned (.bool false) ∧ Mv B T j l st w1 w' := fun w1 h1 => HT 13 false j (.inr ⟨(by rw [hx]; intro g; cases g), rfl, rfl⟩) w1 h1
      have t3 := fun w1 (h1 : Mv B T j l st wr w1) => remark_no (by omega) (by rw [hT]; exact hp2) w1 h1.2
      have HF := stop (bl_end (by omega))
      clear hp2 hx hlen
      clear HT hK hR hat step stop
      go_wp2_with fail
      refine (t0 _ h0).mono ?_
      rintro e w1 ⟨rfl, m1⟩
      have n1 := h0.trans m1
      clear h0 m1 t0
      go_wp2_with fail
      refine (t1 _ n1).mono ?_
      rintro e w2 ⟨rfl, m2⟩
      have n2 := n1.trans m2
      clear n1 m2 t1
      go_wp2_with fail
      refine (t2 _ n2).mono ?_
      rintro e w3 ⟨rfl, m3⟩
      have n3 := n2.trans m3
      clear n2 m3 t2
      go_wp2_with fail
      refine (t3 _ n3).mono ?_
      rintro e w4 ⟨rfl, m4⟩
      have hF := (show ∀ w1, Mv B T j l st wr w1 → _ from HF) _ (n3.trans m4)
      clear HF m4 t3 n3
      go_wp2_with fail
      go_end0
      exact ⟨rfl, hF⟩
end Go.Proofs.YtogenhnonjkanaaDoor
