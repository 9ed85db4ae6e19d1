import Derived.Test.YtogenhnonjkanaaDoorMQua
import Derived.Deep.MidRow
import Derived.Shelf.Strconv.Clone
import Derived.Test.YtogenhnonjkanaaDoorProg
namespace Go.Proofs.YtogenhnonjkanaaDoor
open Go.ChangeShapes Go.WideShapes Go.ChangeAt Go.RowKit
set_option linter.unusedVariables false
theorem pre_one (L : List UInt8) (k : Nat) (a : UInt8) : pre L k [a] = true ↔ L[k]? = some a := by
  unfold pre
  cases h : L[k]? with
  | none => rw [List.drop_eq_nil_of_le (List.getElem?_eq_none_iff.1 h)]; simp
  | some x => rw [drop_cons h]; simp
theorem pre_two (L : List UInt8) (k : Nat) (a b : UInt8) : pre L k [a, b] = true ↔ L[k]? = some a ∧ L[k + 1]? = some b := by
  unfold pre
  cases h : L[k]? with
  | none => rw [List.drop_eq_nil_of_le (List.getElem?_eq_none_iff.1 h)]; simp
  | some x =>
    rw [drop_cons h]
    cases h2 : L[k + 1]? with
    | none => rw [List.drop_eq_nil_of_le (List.getElem?_eq_none_iff.1 h2)]; simp
    | some y => rw [drop_cons h2]; simp
def atOf (B : Nat) (w : World) : Nat := match w.cell? ⟨B, 1, none⟩ with
  | some (.int _ k) => k.toNat
  | _ => 0
theorem atOf_sb {B : Nat} {T : ByteArray} {k l : Int} {st : Bool} {w : World} (h : Sb B T k l st w) : atOf B w = k.toNat := by
  unfold atOf; rw [h.c1]
/-- what a moving function leaves -/
def Mv (B : Nat) (T : ByteArray) (k l : Int) (st : Bool) (w w' : World) : Prop := Kb B w w' ∧ Sb B T k l st w'
theorem Mv.trans {B : Nat} {T : ByteArray} {k l k' l' : Int} {st st' : Bool} {a b c : World} (h : Mv B T k l st a b) (g : Mv B T k' l' st' b c) : Mv B T k' l' st' a c := ⟨h.1.trans g.1, g.2⟩
theorem Mv.refl {B : Nat} {T : ByteArray} {k l : Int} {st : Bool} {w : World} (h : Sb B T k l st w) : Mv B T k l st w w := ⟨Kb.refl B w, h⟩
theorem Mv.below {B n : Nat} {T : ByteArray} {k l : Int} {st : Bool} {w w' : World} (h : Sb B T k l st w) (hb : Below n w w') (hn : w.heap.size ≤ n) : Mv B T k l st w w' := ⟨Kb.of_below hb hn, h.below hb hn⟩
theorem Mv.drew {B : Nat} {T : ByteArray} {k l : Int} {st : Bool} {w w' : World} (h : Sb B T k l st w) (hw : ∃ m, w' = w.drewN m) : Mv B T k l st w w' := by
  obtain ⟨m, rfl⟩ := hw
  exact ⟨(Kb.refl B w).drewN m, h⟩
theorem ended_mv {B : Nat} {T : ByteArray} {k l : Int} {st : Bool} (z : Bool) (hz : (k == (T.size : Int)) = z) (w : World) (h : Sb B T k l st w) :
    Calls Tryd.prog 40 #[.pointer (some ⟨B, 0, none⟩)] w fun e w' => e = .returned (.bool z) ∧ Mv B T k l st w w' :=
  (ended_run B T k l st z hz w h).mono fun e w' hh => ⟨hh.1, Mv.drew h hh.2⟩
theorem sees_mv {B : Nat} {T : ByteArray} {k : Nat} {l : Int} {st : Bool} (p : ByteArray) (z : Bool) (hk : k ≤ T.size) (hz : pre T.data.toList k p.data.toList = z) (w : World) (h : Sb B T k l st w) :
    Calls Tryd.prog 62 #[.pointer (some ⟨B, 0, none⟩), .string p] w fun e w' => e = .returned (.bool z) ∧ Mv B T k l st w w' :=
  (sees_run p z hk hz w h).mono fun e w' hh => ⟨hh.1, Mv.drew h hh.2⟩
/-- taking a byte -/
theorem take_mv {B : Nat} {T : ByteArray} {k : Nat} {l : Int} {st : Bool} (c : UInt8) (ci : Int) (hci : ci = (c.toNat : Int)) (z : Bool) (k' : Nat) (hlen : T.size ≤ 65536) (hk : k ≤ T.size)
    (hz : (T.data.toList[k]? = some c ∧ z = true ∧ k' = k + 1) ∨ (T.data.toList[k]? ≠ some c ∧ z = false ∧ k' = k)) (w : World) (h : Sb B T k l st w) :
    Calls Tryd.prog 56 #[.pointer (some ⟨B, 0, none⟩), .int .u8 ci] w fun e w' => e = .returned (.bool z) ∧ Mv B T k' l st w w' := by
  subst hci
  rcases hz with ⟨h1, rfl, rfl⟩ | ⟨h1, rfl, rfl⟩
  · exact (take_yes c hlen h1 w h).mono fun e w' hh => ⟨hh.1, hh.2.1, hh.2.2⟩
  · cases hx : T.data.toList[k']? with
    | none =>
      have : T.size ≤ k' := by have := List.getElem?_eq_none_iff.1 hx; simpa using this
      exact (take_end _ (by omega) w h).mono fun e w' hh => ⟨hh.1, Mv.drew h hh.2⟩
    | some x =>
      refine (take_no _ x hx ?_ w h).mono fun e w' hh => ⟨hh.1, Mv.drew h hh.2⟩
      simp
      intro g
      exact h1 (by rw [hx, UInt8.toNat_inj.1 (show x.toNat = c.toNat by omega)])
theorem remark_no {B : Nat} {T : ByteArray} {k : Nat} {l : Int} {st : Bool} (hk : k ≤ T.size) (hz : pre T.data.toList k [45, 45] = false) (w : World) (h : Sb B T k l st w) :
    Calls Tryd.prog 57 #[.pointer (some ⟨B, 0, none⟩)] w fun e w' => e = .returned (.bool false) ∧ Mv B T k l st w w' := by
  have hs := sees_mv ⟨#[45, 45]⟩ false hk hz w h
  clear h hz
  go_enter Tryd.func57, Tryd.ntmps57
  go_wp2_with fail
  refine hs.mono ?_
  rintro e w1 ⟨rfl, hm⟩
  clear hs
  go_wp2_with fail
  go_ret
  exact ⟨rfl, hm⟩
set_option maxRecDepth 100000 in
set_option maxHeartbeats 1000000 in
theorem remark_yes {B : Nat} {T : ByteArray} (L : List UInt8) (hT : T.data.toList = L) {k : Nat} {l : Int} {st : Bool} (hlen : T.size ≤ 65536) (hk : k ≤ T.size) (hz : pre L k [45, 45] = true) (w : World) (h : Sb B T k l st w) :
    Calls Tryd.prog 57 #[.pointer (some ⟨B, 0, none⟩)] w fun e w' => e = .returned (.bool true) ∧ Mv B T (rem L k : Nat) l st w w' := by
  have hsz : T.size = L.length := by rw [← hT]; simp
  have hs := sees_mv ⟨#[45, 45]⟩ true hk (by rw [hT]; exact hz) w h
  obtain ⟨M, hM, hLM⟩ : ∃ M : Int, M ≤ 65536 ∧ (L.length : Int) ≤ M := ⟨L.length, by omega, Int.le_refl _⟩
  clear h hz hlen
  go_enter Tryd.func57, Tryd.ntmps57
  go_wp2_with fail
  refine hs.mono ?_
  rintro e w1 ⟨rfl, hm⟩
  have HS : Hid (Mv B T k l st w w1) := hm
  clear hs hm
  go_wp2_with fail
  go_loopw [] (fun wr => ∃ j : Nat, k ≤ j ∧ j ≤ L.length ∧ Hid (Mv B T j l st w wr ∧ rem L k = rem L j)) (fun wr => L.length - atOf B wr)
  case atStart => exact ⟨k, Nat.le_refl _, by omega, (⟨HS, rfl⟩ : Mv B T k l st w w1 ∧ rem L k = rem L k)⟩
  case round =>
    clear HS
    obtain ⟨j, hkj, hj, HR⟩ := hrel
    obtain ⟨hK, hR⟩ := (show Mv B T j l st w wr ∧ rem L k = rem L j from HR)
    clear HR
    have hat := atOf_sb hK.2
    by_cases hjn : j < L.length
    · have hx := List.getElem?_eq_getElem hjn
      have he := ended_mv false (by simp; omega) wr hK.2
      have hjM : (j : Int) < M := by omega
      generalize L[j] = x at hx
      by_cases h10 : x.toNat = 10
      · have hx10 : x = 10 := UInt8.toNat_inj.1 h10
        subst hx10
        have hp := fun w1 (h1 : Mv B T j l st wr w1) => sees_mv ⟨#[10]⟩ true (by omega) (by rw [hT]; exact (pre_one L j 10).2 hx) w1 h1.2
        have HF : Hid (∀ w1, Mv B T j l st wr w1 → Mv B T (rem L k : Nat) l st w w1) := (fun w1 h1 => by rw [hR, rem_nl hx h10]; exact hK.trans h1 : ∀ w1, Mv B T j l st wr w1 → Mv B T (rem L k : Nat) l st w w1)
        clear hx hK hR hat h10
        go_wp2_with fail
        refine he.mono ?_
        rintro e w1 ⟨rfl, m1⟩
        have hp1 := hp w1 m1
        clear he hp
        go_wp2_with fail
        refine hp1.mono ?_
        rintro e w2 ⟨rfl, m2⟩
        have hF := (show ∀ w1, Mv B T j l st wr w1 → Mv B T (rem L k : Nat) l st w w1 from HF) w2 (m1.trans m2)
        clear hp1 HF m1 m2
        go_wp2_with fail
        go_ret
        exact ⟨rfl, hF⟩
      · have hp := fun w1 (h1 : Mv B T j l st wr w1) => sees_mv ⟨#[10]⟩ false (by omega) (by rw [hT, Bool.eq_false_iff]; intro g; have g2 := (pre_one L j 10).1 g; rw [hx] at g2; cases g2; exact h10 rfl) w1 h1.2
        have HF : Hid (∀ w1, Mv B T j l st wr w1 → Mv B T ((j + 1 : Nat) : Int) l st w (w1.setCell ⟨B, 1, none⟩ (.int .i64 ((j : Int) + 1))) ∧ rem L k = rem L (j + 1)) :=
          (fun w1 h1 => ⟨⟨(hK.trans h1).1.setCell 1 _, h1.2.set1 _⟩, hR.trans (rem_step hx h10)⟩ : ∀ w1, Mv B T j l st wr w1 → Mv B T ((j + 1 : Nat) : Int) l st w (w1.setCell ⟨B, 1, none⟩ (.int .i64 ((j : Int) + 1))) ∧ rem L k = rem L (j + 1))
        clear hx hK hR h10
        go_wp2_with fail
        refine he.mono ?_
        rintro e w1 ⟨rfl, m1⟩
        have hp1 := hp w1 m1
        clear he hp
        go_wp2_with fail
        refine hp1.mono ?_
        rintro e w2 ⟨rfl, m2⟩
        have c1 := m2.2.c1
        have f1 := m2.2.fz 1
        have hF := (show ∀ w1, Mv B T j l st wr w1 → Mv B T ((j + 1 : Nat) : Int) l st w (w1.setCell ⟨B, 1, none⟩ (.int .i64 ((j : Int) + 1))) ∧ rem L k = rem L (j + 1) from HF) w2 (m1.trans m2)
        have hat2 := atOf_sb hF.1.2
        have HF2 : Hid (Mv B T ((j + 1 : Nat) : Int) l st w (w2.setCell ⟨B, 1, none⟩ (.int .i64 ((j : Int) + 1))) ∧ rem L k = rem L (j + 1)) := hF
        clear hp1 HF m1 m2 hF
        go_wp2_with fail
        refine ⟨⟨j + 1, by omega, by omega, HF2⟩, ?_⟩
        rw [hat2, hat]
        omega
    · have he := ended_mv true (by simp; omega) wr hK.2
      have HF : Hid (∀ w1, Mv B T j l st wr w1 → Mv B T (rem L k : Nat) l st w w1) := (fun w1 h1 => by rw [hR, rem_end (by omega)]; exact hK.trans h1 : ∀ w1, Mv B T j l st wr w1 → Mv B T (rem L k : Nat) l st w w1)
      clear hK hR hat
      go_wp2_with fail
      refine he.mono ?_
      rintro e w1 ⟨rfl, m1⟩
      have hF := (show ∀ w1, Mv B T j l st wr w1 → Mv B T (rem L k : Nat) l st w w1 from HF) w1 m1
      clear he HF m1
      go_wp2_with fail
      go_ret
      exact ⟨rfl, hF⟩
set_option maxRecDepth 100000 in
set_option maxHeartbeats 1000000 in
theorem impl_blanks {B : Nat} {T : ByteArray} (L : List UInt8) (hT : T.data.toList = L) {k : Nat} {l : Int} {st : Bool} (hlen : T.size ≤ 65536) (hk : k ≤ T.size) (w : World) (h : Sb B T k l st w) :
    Calls Tryd.prog 39 #[.pointer (some ⟨B, 0, none⟩)] w fun e w' => e = .returned (.tuple #[]) ∧ Mv B T (bl L k : Nat) l st w w' := by
  have hsz : T.size = L.length := by rw [← hT]; simp
  have HS : Hid (Mv B T k l st w w) := Mv.refl h
  have HLN : Hid (T.size ≤ 65536) := hlen
  clear h hlen
  go_enter Tryd.func39, Tryd.ntmps39
  go_wp2_with fail
  go_loopw [] (fun wr => ∃ j : Nat, j ≤ L.length ∧ Hid (Mv B T j l st w wr ∧ bl L k = bl L j)) (fun wr => L.length - atOf B wr)
  case atStart => exact ⟨k, by omega, (⟨HS, rfl⟩ : Mv B T k l st w w ∧ bl L k = bl L k)⟩
  case round =>
    clear HS
    obtain ⟨j, hj, HR⟩ := hrel
    obtain ⟨hK, hR⟩ := (show Mv B T j l st w wr ∧ bl L k = bl L j from HR)
    clear HR
    have hat := atOf_sb hK.2
    have hlen := (show T.size ≤ 65536 from HLN)
    have HT := fun (c : UInt8) (z : Bool) (k' : Nat) hz w1 (h1 : Mv B T j l st wr w1) => take_mv (B := B) (T := T) (k := j) (l := l) (st := st) c (c.toNat : Int) rfl z k' hlen (by omega) hz w1 h1.2
    rw [hT] at HT
    have step : ∀ j' : Nat, bl L j = bl L j' → j' ≤ L.length → j < j' → Hid (∀ w1, Mv B T j' l st wr w1 → (∃ j : Nat, j ≤ L.length ∧ Hid (Mv B T j l st w w1 ∧ bl L k = bl L j)) ∧ L.length - atOf B w1 < L.length - atOf B wr) := fun j' e1 e2 e3 =>
      (fun w1 h1 => ⟨⟨j', e2, (⟨hK.trans h1, hR.trans e1⟩ : _ ∧ _)⟩, by rw [atOf_sb h1.2, hat]; omega⟩ : ∀ w1, Mv B T j' l st wr w1 → (∃ j : Nat, j ≤ L.length ∧ Hid (Mv B T j l st w w1 ∧ bl L k = bl L j)) ∧ L.length - atOf B w1 < L.length - atOf B wr)
    have stop : bl L j = j → Hid (∀ w1, Mv B T j l st wr w1 → Mv B T (bl L k : Nat) l st w w1) := fun e => (fun w1 h1 => by rw [hR, e]; exact hK.trans h1 : ∀ w1, Mv B T j l st wr w1 → Mv B T (bl L k : Nat) l st w w1)
    have h0 := Mv.refl hK.2
    by_cases hjn : j < L.length
    · have hx := List.getElem?_eq_getElem hjn
      generalize L[j] = x at hx
      by_cases hb32 : x = 32
      · subst hb32
        have t0 : ∀ w1, Mv B T j l st wr w1 → Calls Tryd.prog 56 #[.pointer (some ⟨B, 0, none⟩), .int .u8 32] w1 fun e w' => e = .returned (.bool true) ∧ Mv B T ((j + 1) : Nat) l st w1 w' := fun w1 h1 => HT 32 true (j + 1) (.inl ⟨hx, rfl, rfl⟩) w1 h1
        have HF := step (j + 1) (bl_blank hx (by decide)) (by omega) (by omega)
        clear HT hK hR hat step stop hx
        go_wp2_with fail
        refine (t0 _ h0).mono ?_
        rintro e w1 ⟨rfl, m1⟩
        have hF := (show ∀ w1, Mv B T ((j + 1 : Nat) : Int) l st wr w1 → _ from HF) _ (h0.trans m1)
        clear HF m1 t0 h0
        go_wp2_with fail
        exact hF
      by_cases hb9 : x = 9
      · subst hb9
        have t0 : ∀ w1, Mv B T j l st wr w1 → Calls Tryd.prog 56 #[.pointer (some ⟨B, 0, none⟩), .int .u8 32] w1 fun e w' => e = .returned (.bool false) ∧ Mv B T (j : Nat) l st w1 w' := fun w1 h1 => HT 32 false j (.inr ⟨by rw [hx]; decide, rfl, rfl⟩) w1 h1
        have t1 : ∀ w1, Mv B T j l st wr w1 → Calls Tryd.prog 56 #[.pointer (some ⟨B, 0, none⟩), .int .u8 9] w1 fun e w' => e = .returned (.bool true) ∧ Mv B T ((j + 1) : Nat) l st w1 w' := fun w1 h1 => HT 9 true (j + 1) (.inl ⟨hx, rfl, rfl⟩) w1 h1
        have HF := step (j + 1) (bl_blank hx (by decide)) (by omega) (by omega)
        clear HT hK hR hat step stop hx
        go_wp2_with fail
        refine (t0 _ h0).mono ?_
        rintro e w1 ⟨rfl, m1⟩
        have n1 := h0.trans m1
        clear h0 m1 t0
        go_wp2_with fail
        refine (t1 _ n1).mono ?_
        rintro e w2 ⟨rfl, m2⟩
        have hF := (show ∀ w1, Mv B T ((j + 1 : Nat) : Int) l st wr w1 → _ from HF) _ (n1.trans m2)
        clear HF m2 t1 n1
        go_wp2_with fail
        exact hF
      by_cases hb13 : x = 13
      · subst hb13
        have t0 : ∀ w1, Mv B T j l st wr w1 → Calls Tryd.prog 56 #[.pointer (some ⟨B, 0, none⟩), .int .u8 32] w1 fun e w' => e = .returned (.bool false) ∧ Mv B T (j : Nat) l st w1 w' := fun w1 h1 => HT 32 false j (.inr ⟨by rw [hx]; decide, rfl, rfl⟩) w1 h1
        have t1 : ∀ w1, Mv B T j l st wr w1 → Calls Tryd.prog 56 #[.pointer (some ⟨B, 0, none⟩), .int .u8 9] w1 fun e w' => e = .returned (.bool false) ∧ Mv B T (j : Nat) l st w1 w' := fun w1 h1 => HT 9 false j (.inr ⟨by rw [hx]; decide, rfl, rfl⟩) w1 h1
        have t2 : ∀ w1, Mv B T j l st wr w1 → Calls Tryd.prog 56 #[.pointer (some ⟨B, 0, none⟩), .int .u8 13] w1 fun e w' => e = .returned (.bool true) ∧ Mv B T ((j + 1) : Nat) l st w1 w' := fun w1 h1 => HT 13 true (j + 1) (.inl ⟨hx, rfl, rfl⟩) w1 h1
        have HF := step (j + 1) (bl_blank hx (by decide)) (by omega) (by omega)
        clear HT hK hR hat step stop hx
        go_wp2_with fail
        refine (t0 _ h0).mono ?_
        rintro e w1 ⟨rfl, m1⟩
        have n1 := h0.trans m1
        clear h0 m1 t0
        go_wp2_with fail
        refine (t1 _ n1).mono ?_
        rintro e w2 ⟨rfl, m2⟩
        have n2 := n1.trans m2
        clear n1 m2 t1
        go_wp2_with fail
        refine (t2 _ n2).mono ?_
        rintro e w3 ⟨rfl, m3⟩
        have hF := (show ∀ w1, Mv B T ((j + 1 : Nat) : Int) l st wr w1 → _ from HF) _ (n2.trans m3)
        clear HF m3 t2 n2
        go_wp2_with fail
        exact hF
      by_cases hp : pre L j [45, 45] = true
      · obtain ⟨p1, p2⟩ := (pre_two L j 45 45).1 hp
        obtain ⟨r1, r2, r3⟩ := bl_remark p1 p2
        have hr4 := rem_le L j hj
        have t0 : ∀ w1, Mv B T j l st wr w1 → Calls Tryd.prog 56 #[.pointer (some ⟨B, 0, none⟩), .int .u8 32] w1 fun e w' => e = .returned (.bool false) ∧ Mv B T j l st w1 w' := fun w1 h1 => HT 32 false j (.inr ⟨by rw [hx]; intro g; exact hb32 (Option.some.inj g), rfl, rfl⟩) w1 h1
        have t1 : ∀ w1, Mv B T j l st wr w1 → Calls Tryd.prog 56 #[.pointer (some ⟨B, 0, none⟩), .int .u8 9] w1 fun e w' => e = .returned (.bool false) ∧ Mv B T j l st w1 w' := fun w1 h1 => HT 9 false j (.inr ⟨by rw [hx]; intro g; exact hb9 (Option.some.inj g), rfl, rfl⟩) w1 h1
        have t2 : ∀ w1, Mv B T j l st wr w1 → Calls Tryd.prog 56 #[.pointer (some ⟨B, 0, none⟩), .int .u8 13] w1 fun e w' => e = .returned (.bool false) ∧ Mv B T j l st w1 w' := fun w1 h1 => HT 13 false j (.inr ⟨by rw [hx]; intro g; exact hb13 (Option.some.inj g), rfl, rfl⟩) w1 h1
        have t3 := fun w1 (h1 : Mv B T j l st wr w1) => remark_yes L hT hlen (by omega) hp w1 h1.2
        have HF := step (rem L j) (r1.trans r2.symm) hr4 r3
        clear hp p1 p2 r1 r2 r3 hr4 hx hlen hb32 hb9 hb13
        clear HT hK hR hat step stop
        go_wp2_with fail
        refine (t0 _ h0).mono ?_
        rintro e w1 ⟨rfl, m1⟩
        have n1 := h0.trans m1
        clear h0 m1 t0
        go_wp2_with fail
        refine (t1 _ n1).mono ?_
        rintro e w2 ⟨rfl, m2⟩
        have n2 := n1.trans m2
        clear n1 m2 t1
        go_wp2_with fail
        refine (t2 _ n2).mono ?_
        rintro e w3 ⟨rfl, m3⟩
        have n3 := n2.trans m3
        clear n2 m3 t2
        go_wp2_with fail
        refine (t3 _ n3).mono ?_
        rintro e w4 ⟨rfl, m4⟩
        have hF := (show ∀ w1, Mv B T (rem L j : Nat) l st wr w1 → _ from HF) _ (n3.trans m4)
        clear HF m4 t3 n3
        go_wp2_with fail
        exact hF
      · have hp2 : pre L j [45, 45] = false := by simpa using hp
        have t0 : ∀ w1, Mv B T j l st wr w1 → Calls Tryd.prog 56 #[.pointer (some ⟨B, 0, none⟩), .int .u8 32] w1 fun e w' => e = .returned (.bool false) ∧ Mv B T j l st w1 w' := fun w1 h1 => HT 32 false j (.inr ⟨by rw [hx]; intro g; exact hb32 (Option.some.inj g), rfl, rfl⟩) w1 h1
        have t1 : ∀ w1, Mv B T j l st wr w1 → Calls Tryd.prog 56 #[.pointer (some ⟨B, 0, none⟩), .int .u8 9] w1 fun e w' => e = .returned (.bool false) ∧ Mv B T j l st w1 w' := fun w1 h1 => HT 9 false j (.inr ⟨by rw [hx]; intro g; exact hb9 (Option.some.inj g), rfl, rfl⟩) w1 h1
        have t2 : ∀ w1, Mv B T j l st wr w1 → Calls Tryd.prog 56 #[.pointer (some ⟨B, 0, none⟩), .int .u8 13] w1 fun e w' => e = .returned (.bool false) ∧ Mv B T j l st w1 w' := fun w1 h1 => HT 13 false j (.inr ⟨by rw [hx]; intro g; exact hb13 (Option.some.inj g), rfl, rfl⟩) w1 h1
        have t3 := fun w1 (h1 : Mv B T j l st wr w1) => remark_no (by omega) (by rw [hT]; exact hp2) w1 h1.2
        have HF := stop (bl_other hx (by intro g; rcases g with g | g | g; exact hb32 (UInt8.toNat_inj.1 g); exact hb9 (UInt8.toNat_inj.1 g); exact hb13 (UInt8.toNat_inj.1 g)) (fun g => hp ((pre_two L j 45 45).2 ⟨by rw [hx, UInt8.toNat_inj.1 (show x.toNat = (45 : UInt8).toNat from g.1)], g.2⟩)))
        clear hp hp2 hx hlen hb32 hb9 hb13
        clear HT hK hR hat step stop
        go_wp2_with fail
        refine (t0 _ h0).mono ?_
        rintro e w1 ⟨rfl, m1⟩
        have n1 := h0.trans m1
        clear h0 m1 t0
        go_wp2_with fail
        refine (t1 _ n1).mono ?_
        rintro e w2 ⟨rfl, m2⟩
        have n2 := n1.trans m2
        clear n1 m2 t1
        go_wp2_with fail
        refine (t2 _ n2).mono ?_
        rintro e w3 ⟨rfl, m3⟩
        have n3 := n2.trans m3
        clear n2 m3 t2
        go_wp2_with fail
        refine (t3 _ n3).mono ?_
        rintro e w4 ⟨rfl, m4⟩
        have hF := (show ∀ w1, Mv B T j l st wr w1 → _ from HF) _ (n3.trans m4)
        clear HF m4 t3 n3
        go_wp2_with fail
        go_end0
        exact ⟨rfl, hF⟩
    · have hx : L[j]? = none := List.getElem?_eq_none_iff.2 (by omega)
      have hp2 : pre L j [45, 45] = false := by rw [Bool.eq_false_iff]; intro g; have := ((pre_two L j 45 45).1 g).1; rw [hx] at this; cases this
      have t0 : ∀ w1, Mv B T j l st wr w1 → Calls Tryd.prog 56 #[.pointer (some ⟨B, 0, none⟩), .int .u8 32] w1 fun e w' => e = .returned (.bool false) ∧ Mv B T j l st w1 w' := fun w1 h1 => HT 32 false j (.inr ⟨(by rw [hx]; intro g; cases g), rfl, rfl⟩) w1 h1
      have t1 : ∀ w1, Mv B T j l st wr w1 → Calls Tryd.prog 56 #[.pointer (some ⟨B, 0, none⟩), .int .u8 9] w1 fun e w' => e = .returned (.bool false) ∧ Mv B T j l st w1 w' := fun w1 h1 => HT 9 false j (.inr ⟨(by rw [hx]; intro g; cases g), rfl, rfl⟩) w1 h1
      have t2 : ∀ w1, Mv B T j l st wr w1 → Calls Tryd.prog 56 #[.pointer (some ⟨B, 0, none⟩), .int .u8 13] w1 fun e w' => e = .returned (.bool false) ∧ Mv B T j l st w1 w' := fun w1 h1 => HT 13 false j (.inr ⟨(by rw [hx]; intro g; cases g), rfl, rfl⟩) w1 h1
      have t3 := fun w1 (h1 : Mv B T j l st wr w1) => remark_no (by omega) (by rw [hT]; exact hp2) w1 h1.2
      have HF := stop (bl_end (by omega))
      clear hp2 hx hlen
      clear HT hK hR hat step stop
      go_wp2_with fail
      refine (t0 _ h0).mono ?_
      rintro e w1 ⟨rfl, m1⟩
      have n1 := h0.trans m1
      clear h0 m1 t0
      go_wp2_with fail
      refine (t1 _ n1).mono ?_
      rintro e w2 ⟨rfl, m2⟩
      have n2 := n1.trans m2
      clear n1 m2 t1
      go_wp2_with fail
      refine (t2 _ n2).mono ?_
      rintro e w3 ⟨rfl, m3⟩
      have n3 := n2.trans m3
      clear n2 m3 t2
      go_wp2_with fail
      refine (t3 _ n3).mono ?_
      rintro e w4 ⟨rfl, m4⟩
      have hF := (show ∀ w1, Mv B T j l st wr w1 → _ from HF) _ (n3.trans m4)
      clear HF m4 t3 n3
      go_wp2_with fail
      go_end0
      exact ⟨rfl, hF⟩
end Go.Proofs.YtogenhnonjkanaaDoor
namespace Go.Proofs.YtogenhnonjkanaaDoor
open Go.ChangeShapes Go.WideShapes Go.ChangeAt Go.RowKit
set_option linter.unusedVariables false
/-- how many bytes at the head are such -/
def rl (p : UInt8 → Bool) : List UInt8 → Nat
  | [] => 0
  | c :: r => if p c then 1 + rl p r else 0
theorem rl_le (p : UInt8 → Bool) : ∀ r : List UInt8, rl p r ≤ r.length
  | [] => by simp [rl]
  | c :: r => by unfold rl; have := rl_le p r; split <;> simp <;> omega
/-- where they end -/
def en (p : UInt8 → Bool) (L : List UInt8) (k : Nat) : Nat := k + rl p (L.drop k)
theorem en_ge (p : UInt8 → Bool) (L : List UInt8) (k : Nat) : k ≤ en p L k := by unfold en; omega
theorem en_le (p : UInt8 → Bool) (L : List UInt8) (k : Nat) (hk : k ≤ L.length) : en p L k ≤ L.length := by
  unfold en; have := rl_le p (L.drop k); rw [List.length_drop] at this; omega
theorem en_end {p : UInt8 → Bool} {L : List UInt8} {k : Nat} (h : L.length ≤ k) : en p L k = k := by unfold en; rw [List.drop_eq_nil_of_le h]; simp [rl]
theorem en_step {p : UInt8 → Bool} {L : List UInt8} {k : Nat} {x : UInt8} (h : L[k]? = some x) (hx : p x = true) : en p L k = en p L (k + 1) := by
  unfold en; rw [drop_cons h, rl, if_pos hx]; omega
theorem en_stop {p : UInt8 → Bool} {L : List UInt8} {k : Nat} {x : UInt8} (h : L[k]? = some x) (hx : p x = false) : en p L k = k := by
  unfold en; rw [drop_cons h, rl, if_neg (by simp [hx])]; rfl
/-- every byte between is such -/
theorem en_mid {p : UInt8 → Bool} {L : List UInt8} : ∀ (n k j : Nat), en p L k = k + n → k ≤ j → j < k + n → ∃ x, L[j]? = some x ∧ p x = true
  | 0, k, j, _, h1, h2 => by omega
  | n + 1, k, j, h, h1, h2 => by
    cases hx : L[k]? with
    | none => rw [en_end (List.getElem?_eq_none_iff.1 hx)] at h; omega
    | some x =>
      by_cases hp : p x = true
      · by_cases hj : j = k
        · subst hj; exact ⟨x, hx, hp⟩
        · exact en_mid n (k + 1) j (by rw [en_step hx hp] at h; omega) (by omega) (by omega)
      · rw [en_stop hx (by simpa using hp)] at h; omega
theorem getD_of {α : Type} (l : List α) (i : Nat) (d : α) (h : i < l.length) : l.getD i d = l[i] := by rw [List.getD, List.getElem?_eq_getElem h]; rfl
def isW (c : UInt8) : Bool := isL c || isD c
theorem isW_zero : isW 0 = false := by decide
/-- the words -/
def wordsL : List (List UInt8) := [[97, 110, 100], [98, 114, 101, 97, 107], [99, 97, 116, 99, 104], [99, 111, 110, 115, 116], [100, 101, 102, 101, 114], [101, 108, 105, 102], [101, 108, 115, 101], [102, 97, 108, 115, 101], [102, 110], [102, 111, 114], [105, 102], [105, 110], [108, 101, 116], [110, 101, 120, 116], [110, 105, 108], [110, 111, 116], [111, 114], [114, 101, 116, 117, 114, 110], [116, 104, 114, 111, 119], [116, 114, 117, 101], [116, 114, 121], [119, 104, 105, 108, 101]]
def wordsB (i : Nat) : ByteArray := ⟨(wordsL.getD i []).toArray⟩
def wordsA : Array Value := (wordsL.map (fun x => Value.string ⟨x.toArray⟩)).toArray
theorem words_len : wordsL.length = 22 := by decide
theorem words_size : wordsA.size = 22 := by simp [wordsA, words_len]
theorem words_get (i : Nat) (hi : i < 22) : wordsA[i]? = some (.string (wordsB i)) := by
  have h : i < wordsL.length := by rw [words_len]; exact hi
  simp [wordsA, wordsB, List.getElem?_eq_getElem h]
theorem words_list (i : Nat) : (wordsB i).data.toList = wordsL.getD i [] := by simp [wordsB]
/-- the marks -/
def marksL : List (List UInt8) := [[40], [41], [123], [125], [91], [93], [44], [61], [46], [46, 46, 46], [35]]
def marksB (i : Nat) : ByteArray := ⟨(marksL.getD i []).toArray⟩
def marksA : Array Value := (marksL.map (fun x => Value.string ⟨x.toArray⟩)).toArray
theorem marks_len : marksL.length = 11 := by decide
theorem marks_size : marksA.size = 11 := by simp [marksA, marks_len]
theorem marks_get (i : Nat) (hi : i < 11) : marksA[i]? = some (.string (marksB i)) := by
  have h : i < marksL.length := by rw [marks_len]; exact hi
  simp [marksA, marksB, List.getElem?_eq_getElem h]
theorem marks_list (i : Nat) : (marksB i).data.toList = marksL.getD i [] := by simp [marksB]
/-- the infix -/
def infixL : List (List UInt8) := [[43], [45], [42], [47], [47, 47], [37], [38], [124], [126], [60, 60], [62, 62], [46, 46], [61, 61], [126, 61], [60], [60, 61], [62], [62, 61]]
def infixB (i : Nat) : ByteArray := ⟨(infixL.getD i []).toArray⟩
def infixA : Array Value := (infixL.map (fun x => Value.string ⟨x.toArray⟩)).toArray
theorem infix_len : infixL.length = 18 := by decide
theorem infix_size : infixA.size = 18 := by simp [infixA, infix_len]
theorem infix_get (i : Nat) (hi : i < 18) : infixA[i]? = some (.string (infixB i)) := by
  have h : i < infixL.length := by rw [infix_len]; exact hi
  simp [infixA, infixB, List.getElem?_eq_getElem h]
theorem infix_list (i : Nat) : (infixB i).data.toList = infixL.getD i [] := by simp [infixB]
/-- a token's kind by its place among the words -/
def wfind (ws : List (List UInt8)) (x : List UInt8) : Option Nat := ws.findIdx? (fun y => y == x)
theorem wfind_some {ws : List (List UInt8)} {x : List UInt8} {i : Nat} (h1 : i < ws.length) (h : ws.getD i [] = x) (hb : ∀ j, j < i → ws.getD j [] ≠ x) : wfind ws x = some i := by
  unfold wfind
  rw [List.findIdx?_eq_some_iff_getElem]
  refine ⟨h1, ?_, fun j hj => ?_⟩
  · rw [getD_of _ _ _ h1] at h; simp [h]
  · have := hb j hj
    rw [getD_of _ _ _ (by omega)] at this
    simpa using this
theorem wfind_none {ws : List (List UInt8)} {x : List UInt8} (hb : ∀ j, j < ws.length → ws.getD j [] ≠ x) : wfind ws x = none := by
  unfold wfind
  rw [List.findIdx?_eq_none_iff]
  intro y hy
  obtain ⟨j, hj, rfl⟩ := List.mem_iff_getElem.1 hy
  have := hb j hj
  rw [getD_of _ _ _ hj] at this
  simpa using this
/-- two texts held against each other -/
theorem cmp_list (a b : ByteArray) : (a.toList == b.toList) = (a.data.toList == b.data.toList) := by rw [Lib.toList_data, Lib.toList_data]
theorem ext_list (T : ByteArray) (k j : Nat) : (T.extract k j).data.toList = (T.data.toList.drop k).take (j - k) := Lib.extract_data T k j
theorem spec_words (w : World) : Calls Tryd.prog 46 #[] w fun e w' => e = .returned (.slice (some ⟨w.heap.size, 0, none⟩) 22 22) ∧ w' = w.alloc (.cells wordsA 9) := by
  go_enter Tryd.func46, Tryd.ntmps46
  go_wp2
  go_ret
  exact ⟨rfl, rfl⟩
/-- a token as a value -/
def tokV (kind a b c num : Int) (t : ByteArray) : Value := .agg #[.int .i64 kind, .int .i64 a, .int .i64 b, .int .i64 c, .int .i64 num, .string t]
end Go.Proofs.YtogenhnonjkanaaDoor
namespace Go.Proofs.YtogenhnonjkanaaDoor
open Go.ChangeShapes Go.WideShapes Go.ChangeAt Go.RowKit
set_option linter.unusedVariables false
theorem bel3 (w : World) (a b c : Obj) : Below w.heap.size w (((w.alloc a).alloc b).alloc c) := (((Below.refl _ w).alloc (Nat.le_refl _) _).alloc (by simp) _).alloc (by simp; omega) _
/-- how a text lies among the words: at place m, or nowhere (m = 22) -/
def Wm (S : ByteArray) (m : Nat) : Prop := m ≤ 22 ∧ (∀ j, j < m → ((wordsB j).toList == S.toList) = false) ∧ (m = 22 ∨ ((wordsB m).toList == S.toList) = true)
theorem wm_any (S : ByteArray) : ∃ m, Wm S m := by
  have key : ∀ n, n ≤ 22 → (∃ m, m < n ∧ (∀ j, j < m → ((wordsB j).toList == S.toList) = false) ∧ ((wordsB m).toList == S.toList) = true) ∨ (∀ j, j < n → ((wordsB j).toList == S.toList) = false) := by
    intro n
    induction n with
    | zero => intro _; right; intro j hj; omega
    | succ n ih =>
      intro hn
      rcases ih (by omega) with ⟨m, h1, h2, h3⟩ | h
      · left; exact ⟨m, by omega, h2, h3⟩
      · cases hc : ((wordsB n).toList == S.toList) with
        | true => left; exact ⟨n, by omega, h, hc⟩
        | false =>
          right
          intro j hj
          by_cases e : j = n
          · subst e; exact hc
          · exact h j (by omega)
  rcases key 22 (Nat.le_refl _) with ⟨m, h1, h2, h3⟩ | h
  · exact ⟨m, by omega, h2, .inr h3⟩
  · exact ⟨22, Nat.le_refl _, h, .inl rfl⟩
/-- the kind and the text of a word -/
def wkI (m : Nat) : Int := if m < 22 then 10 + m else 1
def wkT (m : Nat) (S : ByteArray) : ByteArray := if m < 22 then ⟨#[]⟩ else S
theorem isW_of (x : UInt8) (h : isL x = false) : isW x = isD x := by unfold isW; rw [h]; rfl
set_option maxRecDepth 100000 in
set_option maxHeartbeats 2000000 in
theorem spec_word (T : ByteArray) (L : List UInt8) (hT : T.data.toList = L) (hlen : L.length ≤ 65536) (k m : Nat) (hk : k ≤ L.length) (hm : Wm (T.extract k (en isW L k)) m) (w : World) :
    Calls Tryd.prog 32 #[.string T, tokV 0 k 0 0 0 ⟨#[]⟩] w fun e w' => e = .returned (.tuple #[tokV (wkI m) k (en isW L k) 0 0 (wkT m (T.extract k (en isW L k))), .int .i64 (-1)]) ∧ Below w.heap.size w w' := by
  have hs : T.size = L.length := by rw [← hT]; simp
  have HL : LkAll T L := fun j => spec_look T L hT j
  have HSL := spec_isL
  have HSD := spec_isD
  have HLH : Hid (∀ (c : UInt8) (w : World), Calls Tryd.prog 31 #[.int .u8 (c.toNat : Int)] w fun e w' => e = .returned (.bool (isL c)) ∧ w' = w) := HSL
  have HDH : Hid (∀ (c : UInt8) (w : World), Calls Tryd.prog 33 #[.int .u8 (c.toNat : Int)] w fun e w' => e = .returned (.bool (isD c)) ∧ w' = w) := HSD
  have HW : Hid (Wm (T.extract k (en isW L k)) m) := hm
  obtain ⟨M, hM, hLM⟩ : ∃ M : Int, M ≤ 65536 ∧ (L.length : Int) ≤ M := ⟨L.length, by omega, Int.le_refl _⟩
  have hel := en_le isW L k hk
  have heg := en_ge isW L k
  have HSP := spec_words
  clear hT hlen HSL HSD hm
  show Calls Tryd.prog 32 #[.string T, .agg #[.int .i64 0, .int .i64 k, .int .i64 0, .int .i64 0, .int .i64 0, .string ⟨#[]⟩]] w _
  go_enter Tryd.func32, Tryd.ntmps32
  go_wp2_with fail
  go_loop [6] (fun a => ∃ j : Nat, a = .int .i64 j ∧ k ≤ j ∧ j ≤ L.length ∧ Hid (en isW L k = en isW L j)) (fun a => L.length - (intOf a).toNat)
  case atStart => exact ⟨k, rfl, Nat.le_refl _, hk, (rfl : en isW L k = en isW L k)⟩
  case round =>
    obtain ⟨j, rfl, hkj, hj, HE⟩ := hrel
    have hE := (show en isW L k = en isW L j from HE)
    clear HE
    have hl := HL j
    have hlet := (show ∀ (c : UInt8) (w : World), _ from HLH) (lk L j)
    have hdig := (show ∀ (c : UInt8) (w : World), _ from HDH) (lk L j)
    have hjM : (j : Int) ≤ M := by omega
    by_cases hgo : isW (lk L j) = true
    · have hjn : j < L.length := by
        rcases Nat.lt_or_ge j L.length with h | h
        · exact h
        · rw [lk_none h] at hgo; cases hgo
      have hx : L[j]? = some (lk L j) := by
        have := List.getElem?_eq_getElem hjn
        rw [lk_some this]; exact this
      have HN : Hid (en isW L k = en isW L (j + 1)) := (hE.trans (en_step hx hgo) : en isW L k = en isW L (j + 1))
      clear hE HW HSP HL HLH HDH hx
      cases hlv : isL (lk L j) with
      | true =>
        rw [hlv] at hlet
        clear hgo hlv hdig
        generalize ((lk L j).toNat : Int) = xi at *
        go_wp2_with fail
        refine (hl _).mono ?_
        rintro e w1 ⟨rfl, rfl⟩
        clear hl
        go_wp2_with fail
        refine (hlet _).mono ?_
        rintro e w1 ⟨rfl, rfl⟩
        clear hlet
        go_wp2_with fail
        refine ⟨⟨j + 1, by go_num, by omega, by omega, HN⟩, ?_⟩
        simp [intOf]; omega
      | false =>
        rw [hlv] at hlet
        rw [isW_of _ hlv] at hgo
        rw [hgo] at hdig
        clear hgo hlv
        generalize ((lk L j).toNat : Int) = xi at *
        go_wp2_with fail
        refine (hl _).mono ?_
        rintro e w1 ⟨rfl, rfl⟩
        go_wp2_with fail
        refine (hlet _).mono ?_
        rintro e w1 ⟨rfl, rfl⟩
        clear hlet
        go_wp2_with fail
        refine (hl _).mono ?_
        rintro e w1 ⟨rfl, rfl⟩
        clear hl
        go_wp2_with fail
        refine (hdig _).mono ?_
        rintro e w1 ⟨rfl, rfl⟩
        clear hdig
        go_wp2_with fail
        refine ⟨⟨j + 1, by go_num, by omega, by omega, HN⟩, ?_⟩
        simp [intOf]; omega
    · have hlv : isL (lk L j) = false := by
        unfold isW at hgo; simp at hgo; exact hgo.1
      have hdv : isD (lk L j) = false := by
        unfold isW at hgo; simp at hgo; exact hgo.2
      have e : en isW L k = j := by
        rw [hE]
        rcases Nat.lt_or_ge j L.length with h | h
        · have := List.getElem?_eq_getElem h
          exact en_stop (x := lk L j) (by rw [lk_some this]; exact this) (by simpa using hgo)
        · exact en_end h
      rw [hlv] at hlet
      rw [hdv] at hdig
      rw [e] at HW
      have HE : Hid (en isW L k = j) := e
      have hsl : ∀ W : World, (Instr.slice 9 (.string T) (some (.int .i64 (k : Int))) (some (.int .i64 (j : Int))) none).run Tryd.prog W = .ok (.string (T.extract k j)) W := by
        intro W
        rw [run_slice_string (P := Tryd.prog) W 9 T .i64 .i64 (k : Int) (j : Int) Tryd.underlying9 (by omega) (by omega) (by omega)]
        simp
      clear hE HL HLH HDH hgo hlv hdv e hel heg
      generalize ((lk L j).toNat : Int) = xi at *
      go_wp2_with fail
      refine (hl _).mono ?_
      rintro e w1 ⟨rfl, rfl⟩
      go_wp2_with fail
      refine (hlet _).mono ?_
      rintro e w1 ⟨rfl, rfl⟩
      clear hlet
      go_wp2_with fail
      refine (hl _).mono ?_
      rintro e w1 ⟨rfl, rfl⟩
      clear hl
      go_wp2_with fail
      refine (hdig _).mono ?_
      rintro e w1 ⟨rfl, rfl⟩
      clear hdig
      go_wp2_with fail
      refine (HSP _).mono ?_
      rintro e w1 ⟨rfl, rfl⟩
      clear HSP
      go_wp2_with fail
      obtain ⟨hm22, hneq, hlast⟩ := (show Wm (T.extract k j) m from HW)
      clear HW
      have HNQ : Hid (∀ j', j' < m → ((wordsB j').toList == (T.extract k j).toList) = false) := hneq
      have HLA : Hid (m = 22 ∨ ((wordsB m).toList == (T.extract k j).toList) = true) := hlast
      clear hneq hlast
      go_loop [34] (fun a => ∃ i : Nat, a = .int .i64 i ∧ i ≤ m) (fun a => 22 - (intOf a).toNat)
      case atStart => exact ⟨0, rfl, Nat.zero_le _⟩
      case round =>
        obtain ⟨i, rfl, him⟩ := hrel
        by_cases hi : i < m
        · have hc := (show ∀ j', j' < m → ((wordsB j').toList == (T.extract k j).toList) = false from HNQ) i hi
          have hg := words_get i (by omega)
          have hi22 : (i : Int) < 22 := by omega
          clear HNQ HLA HE
          generalize wordsB i = X at *
          generalize T.extract k j = S at *
          go_wp2_with fail
          refine ⟨⟨i + 1, by go_num, by omega⟩, ?_⟩
          simp [intOf]; omega
        · obtain rfl : i = m := by omega
          by_cases h22 : i = 22
          · have ek : wkI i = 1 := by unfold wkI; rw [if_neg (by omega)]
            have et : wkT i (T.extract k j) = T.extract k j := by unfold wkT; rw [if_neg (by omega)]
            have HF : Hid (∀ a b : Value, (Value.tuple #[tokV 1 k j 0 0 (T.extract k j), .int .i64 (-1)]) = Value.tuple #[tokV (wkI i) k (en isW L k) 0 0 (wkT i (T.extract k (en isW L k))), .int .i64 (-1)]) := by
              show ∀ a b : Value, _
              intro _ _
              rw [show en isW L k = j from HE, ek, et]
            subst h22
            clear HNQ HLA HE ek et
            generalize T.extract k j = S at *
            go_wp2_with fail
            refine bodyPost_ret (by simp [results, Tryd.results32, go_sem]; rfl) rfl ?_
            refine ⟨?_, ?_⟩
            · exact congrArg Ending.returned ((show ∀ a b : Value, _ from HF) undef undef)
            · exact bel3 w _ _ _
          · have hc := (show i = 22 ∨ ((wordsB i).toList == (T.extract k j).toList) = true from HLA).resolve_left h22
            have hg := words_get i (by omega)
            have hi22 : (i : Int) < 22 := by omega
            have ek : wkI i = 10 + (i : Int) := by unfold wkI; rw [if_pos (by omega)]
            have et : wkT i (T.extract k j) = ⟨#[]⟩ := by unfold wkT; rw [if_pos (by omega)]
            have HF : Hid (∀ a b : Value, (Value.tuple #[tokV (10 + (i : Int)) k j 0 0 ⟨#[]⟩, .int .i64 (-1)]) = Value.tuple #[tokV (wkI i) k (en isW L k) 0 0 (wkT i (T.extract k (en isW L k))), .int .i64 (-1)]) := by
              show ∀ a b : Value, _
              intro _ _
              rw [show en isW L k = j from HE, ek, et]
            clear HNQ HLA HE ek et
            generalize wordsB i = X at *
            generalize T.extract k j = S at *
            go_wp2_with fail
            refine bodyPost_ret (by simp [results, Tryd.results32, go_sem]; rfl) rfl ?_
            refine ⟨?_, ?_⟩
            · exact congrArg Ending.returned ((show ∀ a b : Value, _ from HF) undef undef)
            · exact bel3 w _ _ _
end Go.Proofs.YtogenhnonjkanaaDoor
namespace Go.Proofs.YtogenhnonjkanaaDoor
open Go.Shelf
def renC : Go.Shelf.Ren := ⟨fun | 316 => 89 | n => n, fun | 9 => 9 | 3 => 3 | 4 => 4 | 37 => 66 | 0 => 0 | 127 => 84 | 5 => 5 | n => n, fun | n => n⟩
theorem laysC : Go.Proofs.LaysM.n316 Tryd.prog renC := {
  mixed := by kernel_rfl
  f316 := Tryd.func89.trans (congrArg some (by kernel_rfl))
  t0 := Tryd.underlying0
  a0 := Tryd.isAgg0
  z0 := Tryd.sizeOf0
  v0 := Tryd.zeroValue0
  t3 := Tryd.underlying3
  a3 := Tryd.isAgg3
  z3 := Tryd.sizeOf3
  v3 := Tryd.zeroValue3
  t4 := Tryd.underlying4
  a4 := Tryd.isAgg4
  z4 := Tryd.sizeOf4
  v4 := Tryd.zeroValue4
  t9 := Tryd.underlying9
  a9 := Tryd.isAgg9
  z9 := Tryd.sizeOf9
  v9 := Tryd.zeroValue9
  t37 := Tryd.underlying66
  a37 := Tryd.isAgg66
  z37 := Tryd.sizeOf66
  v37 := Tryd.zeroValue66
  t127 := Tryd.underlying84
  a127 := Tryd.isAgg84
  z127 := Tryd.sizeOf84
  v127 := Tryd.zeroValue84
  t5 := Tryd.underlying5
  a5 := Tryd.isAgg5
  z5 := Tryd.sizeOf5
  v5 := Tryd.zeroValue5
  i0 := by kernel_rfl
  i3 := by kernel_rfl
  i4 := by kernel_rfl
  i5 := by kernel_rfl
  i9 := by kernel_rfl
  i37 := by kernel_rfl
  i127 := by kernel_rfl }
open Go.RowKit in
theorem lite_clone (s : ByteArray) (w : World) (hlim : s.size ≤ 281474976710656) :
    Calls Tryd.prog 89 #[.string s] w fun e w' => e = .returned (.string s) ∧ Below w.heap.size w w' := Any.stringslite_Clone laysC s w hlim
end Go.Proofs.YtogenhnonjkanaaDoor
namespace Go.Proofs.YtogenhnonjkanaaDoor
open Go.ChangeShapes Go.WideShapes Go.ChangeAt Go.RowKit
set_option linter.unusedVariables false
theorem clone_run (s : ByteArray) (h : s.size ≤ 281474976710656) (w : World) : Calls Tryd.prog 75 #[.string s] w fun e w' => e = .returned (.string s) ∧ Below w.heap.size w w' := by
  have hc := lite_clone s w h
  clear h
  go_enter Tryd.func75, Tryd.ntmps75
  go_wp2_with fail
  refine hc.mono ?_
  rintro e w1 ⟨rfl, h1⟩
  clear hc
  go_wp2_with fail
  go_ret
  exact ⟨rfl, h1⟩
/-- the program's tables stand -/
structure Gd (w : World) : Prop where
  words : w.rangeAt 0 0 wordsA.toList
  marks : w.rangeAt 1 0 marksA.toList
  infx : w.rangeAt 2 0 infixA.toList
  err7 : ∃ t v, w.cell? ⟨7, 0, none⟩ = some (.iface t v)
  err6 : ∃ t v, w.cell? ⟨6, 0, none⟩ = some (.iface t v)
  size : 8 ≤ w.heap.size
theorem Kb.cell {B : Nat} {a w : World} (h : Kb B a w) (p : Addr) (h1 : p.block < a.heap.size) (h2 : p.block ≠ B) : w.cell? p = a.cell? p := World.cell?_of_block (h.block p.block h1 h2)
theorem Gd.kb {B : Nat} {a w : World} (h : Gd a) (hB : 8 ≤ B) (hk : Kb B a w) : Gd w := by
  have hs := h.size
  have e : ∀ (g : Nat) (j : Nat), g < 8 → w.cell? ⟨g, j, none⟩ = a.cell? ⟨g, j, none⟩ := fun g j hg => hk.cell ⟨g, j, none⟩ (show g < a.heap.size by omega) (show g ≠ B by omega)
  refine ⟨fun j v hv => ?_, fun j v hv => ?_, fun j v hv => ?_, ?_, ?_, Nat.le_trans hs hk.size⟩
  · rw [e 0 _ (by omega)]; exact h.words j v hv
  · rw [e 1 _ (by omega)]; exact h.marks j v hv
  · rw [e 2 _ (by omega)]; exact h.infx j v hv
  · rw [e 7 0 (by omega)]; exact h.err7
  · rw [e 6 0 (by omega)]; exact h.err6
theorem tab_index (t n : Nat) (A : Array Value) (hu : Tryd.prog.underlying t = some (.array n 9)) (i : Nat) (hi : i < n) (X : ByteArray) (hg : A[i]? = some (.string X)) (W : World) :
    (Instr.index t (.agg A) (.int .i64 (i : Int))).run Tryd.prog W = .ok (.string X) W := by
  simp [Instr.index, run_underlying hu, asIntOf, go_sem, Tryd.sizeOf9, part, Tryd.isAgg9, hg]
  intro h
  omega
theorem words_load (W : World) (h : W.rangeAt 0 0 wordsA.toList) : (Instr.loadAt 79 (.pointer (some ⟨0, 0, none⟩))).run Tryd.prog W = .ok (.agg wordsA) W := by
  have := run_loadAt_mid (P := Tryd.prog) W 0 0 79 wordsA.toList _ h Tryd.underlying79 rfl (by kernel_rfl)
  simpa using this
theorem marks_load (W : World) (h : W.rangeAt 1 0 marksA.toList) : (Instr.loadAt 80 (.pointer (some ⟨1, 0, none⟩))).run Tryd.prog W = .ok (.agg marksA) W := by
  have := run_loadAt_mid (P := Tryd.prog) W 1 0 80 marksA.toList _ h Tryd.underlying80 rfl (by kernel_rfl)
  simpa using this
theorem infix_load (W : World) (h : W.rangeAt 2 0 infixA.toList) : (Instr.loadAt 81 (.pointer (some ⟨2, 0, none⟩))).run Tryd.prog W = .ok (.agg infixA) W := by
  have := run_loadAt_mid (P := Tryd.prog) W 2 0 81 infixA.toList _ h Tryd.underlying81 rfl (by kernel_rfl)
  simpa using this
/-- the answer's block, as it was laid -/
def Rz (n : Nat) (w : World) : Prop := w.heap[n]? = some (.cells #[.int .i64 0, .int .i64 0, .int .i64 0, .int .i64 0, .int .i64 0, .string ⟨#[]⟩] 33 (0, 0))
theorem Rz.lt {n : Nat} {w : World} (h : Rz n w) : n < w.heap.size := (Array.getElem?_eq_some_iff.1 h).1
theorem Rz.kb {B n : Nat} {a w : World} (h : Rz n a) (hk : Kb B a w) (hn : n ≠ B) : Rz n w := (hk.block n h.lt hn).trans h
theorem Rz.new (w : World) : Rz w.heap.size (w.alloc (.cells #[.int .i64 0, .int .i64 0, .int .i64 0, .int .i64 0, .int .i64 0, .string ⟨#[]⟩] 33)) := by show (w.heap.push _)[w.heap.size]? = _; simp
def st6 (W : World) (n : Nat) (a b c d e f : Value) : World := ((((((W.setCell ⟨n, 0, none⟩ a).setCell ⟨n, 1, none⟩ b).setCell ⟨n, 2, none⟩ c).setCell ⟨n, 3, none⟩ d).setCell ⟨n, 4, none⟩ e).setCell ⟨n, 5, none⟩ f)
theorem st6_heap {W : World} {n : Nat} (h : Rz n W) (a b c d e f : Value) : (st6 W n a b c d e f).heap[n]? = some (.cells #[a, b, c, d, e, f] 33 (0, 0)) := by
  unfold Rz at h
  simp [st6, World.setCell, Array.getElem?_modify, h]
theorem st6_c0 {W : World} {n : Nat} (h : Rz n W) (a b c d e f : Value) : ((((((W.setCell ⟨n, 0, none⟩ a).setCell ⟨n, 1, none⟩ b).setCell ⟨n, 2, none⟩ c).setCell ⟨n, 3, none⟩ d).setCell ⟨n, 4, none⟩ e).setCell ⟨n, 5, none⟩ f).cell? ⟨n, 0, none⟩ = some a := by
  have := st6_heap h a b c d e f
  show (st6 W n a b c d e f).cell? ⟨n, 0, none⟩ = some a
  simp [World.cell?, this]
theorem st6_c1 {W : World} {n : Nat} (h : Rz n W) (a b c d e f : Value) : ((((((W.setCell ⟨n, 0, none⟩ a).setCell ⟨n, 1, none⟩ b).setCell ⟨n, 2, none⟩ c).setCell ⟨n, 3, none⟩ d).setCell ⟨n, 4, none⟩ e).setCell ⟨n, 5, none⟩ f).cell? ⟨n, 1, none⟩ = some b := by
  have := st6_heap h a b c d e f
  show (st6 W n a b c d e f).cell? ⟨n, 1, none⟩ = some b
  simp [World.cell?, this]
theorem st6_c2 {W : World} {n : Nat} (h : Rz n W) (a b c d e f : Value) : ((((((W.setCell ⟨n, 0, none⟩ a).setCell ⟨n, 1, none⟩ b).setCell ⟨n, 2, none⟩ c).setCell ⟨n, 3, none⟩ d).setCell ⟨n, 4, none⟩ e).setCell ⟨n, 5, none⟩ f).cell? ⟨n, 2, none⟩ = some c := by
  have := st6_heap h a b c d e f
  show (st6 W n a b c d e f).cell? ⟨n, 2, none⟩ = some c
  simp [World.cell?, this]
theorem st6_c3 {W : World} {n : Nat} (h : Rz n W) (a b c d e f : Value) : ((((((W.setCell ⟨n, 0, none⟩ a).setCell ⟨n, 1, none⟩ b).setCell ⟨n, 2, none⟩ c).setCell ⟨n, 3, none⟩ d).setCell ⟨n, 4, none⟩ e).setCell ⟨n, 5, none⟩ f).cell? ⟨n, 3, none⟩ = some d := by
  have := st6_heap h a b c d e f
  show (st6 W n a b c d e f).cell? ⟨n, 3, none⟩ = some d
  simp [World.cell?, this]
theorem st6_c4 {W : World} {n : Nat} (h : Rz n W) (a b c d e f : Value) : ((((((W.setCell ⟨n, 0, none⟩ a).setCell ⟨n, 1, none⟩ b).setCell ⟨n, 2, none⟩ c).setCell ⟨n, 3, none⟩ d).setCell ⟨n, 4, none⟩ e).setCell ⟨n, 5, none⟩ f).cell? ⟨n, 4, none⟩ = some e := by
  have := st6_heap h a b c d e f
  show (st6 W n a b c d e f).cell? ⟨n, 4, none⟩ = some e
  simp [World.cell?, this]
theorem st6_c5 {W : World} {n : Nat} (h : Rz n W) (a b c d e f : Value) : ((((((W.setCell ⟨n, 0, none⟩ a).setCell ⟨n, 1, none⟩ b).setCell ⟨n, 2, none⟩ c).setCell ⟨n, 3, none⟩ d).setCell ⟨n, 4, none⟩ e).setCell ⟨n, 5, none⟩ f).cell? ⟨n, 5, none⟩ = some f := by
  have := st6_heap h a b c d e f
  show (st6 W n a b c d e f).cell? ⟨n, 5, none⟩ = some f
  simp [World.cell?, this]
theorem Rz.c0 {n : Nat} {w : World} (h : Rz n w) : w.cell? ⟨n, 0, none⟩ = some (.int .i64 0) := by unfold Rz at h; simp [World.cell?, h]
theorem Rz.f0 {n : Nat} {w : World} (h : Rz n w) : w.frozen? ⟨n, 0, none⟩ = false := by unfold Rz at h; simp [World.frozen?, h]
theorem Rz.c1 {n : Nat} {w : World} (h : Rz n w) : w.cell? ⟨n, 1, none⟩ = some (.int .i64 0) := by unfold Rz at h; simp [World.cell?, h]
theorem Rz.f1 {n : Nat} {w : World} (h : Rz n w) : w.frozen? ⟨n, 1, none⟩ = false := by unfold Rz at h; simp [World.frozen?, h]
theorem Rz.c2 {n : Nat} {w : World} (h : Rz n w) : w.cell? ⟨n, 2, none⟩ = some (.int .i64 0) := by unfold Rz at h; simp [World.cell?, h]
theorem Rz.f2 {n : Nat} {w : World} (h : Rz n w) : w.frozen? ⟨n, 2, none⟩ = false := by unfold Rz at h; simp [World.frozen?, h]
theorem Rz.c3 {n : Nat} {w : World} (h : Rz n w) : w.cell? ⟨n, 3, none⟩ = some (.int .i64 0) := by unfold Rz at h; simp [World.cell?, h]
theorem Rz.f3 {n : Nat} {w : World} (h : Rz n w) : w.frozen? ⟨n, 3, none⟩ = false := by unfold Rz at h; simp [World.frozen?, h]
theorem Rz.c4 {n : Nat} {w : World} (h : Rz n w) : w.cell? ⟨n, 4, none⟩ = some (.int .i64 0) := by unfold Rz at h; simp [World.cell?, h]
theorem Rz.f4 {n : Nat} {w : World} (h : Rz n w) : w.frozen? ⟨n, 4, none⟩ = false := by unfold Rz at h; simp [World.frozen?, h]
theorem Rz.c5 {n : Nat} {w : World} (h : Rz n w) : w.cell? ⟨n, 5, none⟩ = some (.string ⟨#[]⟩) := by unfold Rz at h; simp [World.cell?, h]
theorem Rz.f5 {n : Nat} {w : World} (h : Rz n w) : w.frozen? ⟨n, 5, none⟩ = false := by unfold Rz at h; simp [World.frozen?, h]
theorem st6_mv {B n : Nat} {T : ByteArray} {k l : Int} {st : Bool} {w W : World} (h : Mv B T k l st w W) (hn : w.heap.size ≤ n) (hB : n ≠ B) (a b c d e f : Value) : Mv B T k l st w (st6 W n a b c d e f) := by
  obtain ⟨h1, h2⟩ := h
  refine ⟨?_, ?_⟩
  · exact (((((h1.setNew _ hn _).setNew _ hn _).setNew _ hn _).setNew _ hn _).setNew _ hn _).setNew _ hn _
  · unfold Sb at *
    unfold st6
    repeat rw [Below.heap_setCell _ _ _ _ (by exact fun g => hB g.symm)]
    exact h2
end Go.Proofs.YtogenhnonjkanaaDoor
