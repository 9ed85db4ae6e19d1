import Derived.Test.YtogenhnonjkanaaDoorSaf
namespace Go.Proofs.YtogenhnonjkanaaDoor
open Go.ChangeShapes Go.WideShapes Go.ChangeAt Go.RowKit
set_option linter.unusedVariables false
theorem bel3 (w : World) (a b c : Obj) : Below w.heap.size w (((w.alloc a).alloc b).alloc c) := (((Below.refl _ w).alloc (Nat.le_refl _) _).alloc (by simp) _).alloc (by simp; omega) _
/-- how a text lies among the words: at place m, or nowhere (m = 22) -/
def Wm (S : ByteArray) (m : Nat) : Prop := m ≤ 22 ∧ (∀ j, j < m → ((wordsB j).toList == S.toList) = false) ∧ (m = 22 ∨ ((wordsB m).toList == S.toList) = true)
theorem wm_any (S : ByteArray) : ∃ m, Wm S m := by
  have key : ∀ n, n ≤ 22 → (∃ m, m < n ∧ (∀ j, j < m → ((wordsB j).toList == S.toList) = false) ∧ ((wordsB m).toList == S.toList) = true) ∨ (∀ j, j < n → ((wordsB j).toList == S.toList) = false) := by
    intro n
    induction n with
    | zero => intro _; right; intro j hj; omega
    | succ n ih =>
      intro hn
      rcases ih (by omega) with ⟨m, h1, h2, h3⟩ | h
      · left; exact ⟨m, by omega, h2, h3⟩
      · cases hc : ((wordsB n).toList == S.toList) with
        | true => left; exact ⟨n, by omega, h, hc⟩
        | false =>
          right
          intro j hj
          by_cases e : j = n
          · subst e; exact hc
          · exact h j (by omega)
  rcases key 22 (Nat.le_refl _) with ⟨m, h1, h2, h3⟩ | h
  · exact ⟨m, by omega, h2, .inr h3⟩
  · exact ⟨22, Nat.le_refl _, h, .inl rfl⟩
/-- the kind and the text of a word -/
def wkI (m : Nat) : Int := if m < 22 then 10 + m else 1
def wkT (m : Nat) (S : ByteArray) : ByteArray := if m < 22 then ⟨#[]⟩ else S
theorem isW_of (x : UInt8) (h : isL x = false) : isW x = isD x := by unfold isW; rw [h]; rfl
set_option maxRecDepth 100000 in
set_option maxHeartbeats 2000000 in
theorem spec_word (T : ByteArray) (L : List UInt8) (hT : T.data.toList = L) (hlen : L.length ≤ 65536) (k m : Nat) (hk : k ≤ L.length) (hm : Wm (T.extract k (en isW L k)) m) (w : World) :
    Calls Tryd.prog 32 #[.string T, tokV 0 k 0 0 0 ⟨#[]⟩] w fun e w' => e = .returned (.tuple #[tokV (wkI m) k (en isW L k) 0 0 (wkT m (T.extract k (en isW L k))), .int .i64 (-1)]) ∧ Below w.heap.size w w' := by
  have hs : T.size = L.length := by rw [← hT]; simp
  have HL : LkAll T L := fun j => spec_look T L hT j
  have HSL := spec_isL
  have HSD := spec_isD
  have HLH : Hid (∀ (c : UInt8) (w : World), Calls Tryd.prog 31 #[.int .u8 (c.toNat : Int)] w fun e w' => e = .returned (.bool (isL c)) ∧ w' = w) := HSL
  have HDH : Hid (∀ (c : UInt8) (w : World), Calls Tryd.prog 33 #[.int .u8 (c.toNat : Int)] w fun e w' => e = .returned (.bool (isD c)) ∧ w' = w) := HSD
  have HW : Hid (Wm (T.extract k (en isW L k)) m) := hm
  obtain ⟨M, hM, hLM⟩ : ∃ M : Int, M ≤ 65536 ∧ (L.length : Int) ≤ M := ⟨L.length, by omega, Int.le_refl _⟩
  have hel := en_le isW L k hk
  have heg := en_ge isW L k
  have HSP := spec_words
  clear hT hlen HSL HSD hm
  show Calls Tryd.prog 32 #[.string T, .agg #[.int .i64 0, .int .i64 k, .int .i64 0, .int .i64 0, .int .i64 0, .string ⟨#[]⟩]] w _
  go_enter Tryd.func32, Tryd.ntmps32
  go_wp2_with fail
  go_loop [6] (fun a => ∃ j : Nat, a = .int .i64 j ∧ k ≤ j ∧ j ≤ L.length ∧ Hid (en isW L k = en isW L j)) (fun a => L.length - (intOf a).toNat)
  case atStart => exact ⟨k, rfl, Nat.le_refl _, hk, (rfl : en isW L k = en isW L k)⟩
  case round =>
    obtain ⟨j, rfl, hkj, hj, HE⟩ := hrel
    have hE := (show en isW L k = en isW L j from HE)
    clear HE
    have hl := HL j
    have hlet := (show ∀ (c : UInt8) (w : World), _ from HLH) (lk L j)
    have hdig := (show ∀ (c : UInt8) (w : World), _ from HDH) (lk L j)
    have hjM : (j : Int) ≤ M := by omega
    by_cases hgo : isW (lk L j) = true
    · have hjn : j < L.length := by
        rcases Nat.lt_or_ge j L.length with h | h
        · exact h
        · rw [lk_none h] at hgo; cases hgo
      have hx : L[j]? = some (lk L j) := by
        have := List.getElem?_eq_getElem hjn
        rw [lk_some this]; exact this
      have HN : Hid (en isW L k = en isW L (j + 1)) := (hE.trans (en_step hx hgo) : en isW L k = en isW L (j + 1))
      clear hE HW HSP HL HLH HDH hx
      cases hlv : isL (lk L j) with
      | true =>
        rw [hlv] at hlet
        clear hgo hlv hdig
        generalize ((lk L j).toNat : Int) = xi at *
        go_wp2_with fail
        refine (hl _).mono ?_
        rintro e w1 ⟨rfl, rfl⟩
        clear hl
        go_wp2_with fail
        refine (hlet _).mono ?_
        rintro e w1 ⟨rfl, rfl⟩
        clear hlet
        go_wp2_with fail
        refine ⟨⟨j + 1, by go_num, by omega, by omega, HN⟩, ?_⟩
        simp [intOf]; omega
      | false =>
        rw [hlv] at hlet
        rw [isW_of _ hlv] at hgo
        rw [hgo] at hdig
        clear hgo hlv
        generalize ((lk L j).toNat : Int) = xi at *
        go_wp2_with fail
        refine (hl _).mono ?_
        rintro e w1 ⟨rfl, rfl⟩
        go_wp2_with fail
        refine (hlet _).mono ?_
        rintro e w1 ⟨rfl, rfl⟩
        clear hlet
        go_wp2_with fail
        refine (hl _).mono ?_
        rintro e w1 ⟨rfl, rfl⟩
        clear hl
        go_wp2_with fail
        refine (hdig _).mono ?_
        rintro e w1 ⟨rfl, rfl⟩
        clear hdig
        go_wp2_with fail
        refine ⟨⟨j + 1, by go_num, by omega, by omega, HN⟩, ?_⟩
        simp [intOf]; omega
    · have hlv : isL (lk L j) = false := by
        unfold isW at hgo; simp at hgo; exact hgo.1
      have hdv : isD (lk L j) = false := by
        unfold isW at hgo; simp at hgo; exact hgo.2
      have e : en isW L k = j := by
        rw [hE]
        rcases Nat.lt_or_ge j L.length with h | h
        · have := List.getElem?_eq_getElem h
          exact en_stop (x := lk L j) (by rw [lk_some this]; exact this) (by simpa using hgo)
        · exact en_end h
      rw [hlv] at hlet
      rw [hdv] at hdig
      rw [e] at HW
      have HE : Hid (en isW L k = j) := e
      have hsl : ∀ W : World, (Instr.slice 9 (.string T) (some (.int .i64 (k : Int))) (some (.int .i64 (j : Int))) none).run Tryd.prog W = .ok (.string (T.extract k j)) W := by
        intro W
        rw [run_slice_string (P := Tryd.prog) W 9 T .i64 .i64 (k : Int) (j : Int) Tryd.underlying9 (by omega) (by omega) (by omega)]
        simp
      clear hE HL HLH HDH hgo hlv hdv e hel heg
      generalize ((lk L j).toNat : Int) = xi at *
      go_wp2_with fail
      refine (hl _).mono ?_
      rintro e w1 ⟨rfl, rfl⟩
      go_wp2_with fail
      refine (hlet _).mono ?_
      rintro e w1 ⟨rfl, rfl⟩
      clear hlet
      go_wp2_with fail
      refine (hl _).mono ?_
      rintro e w1 ⟨rfl, rfl⟩
      clear hl
      go_wp2_with fail
      refine (hdig _).mono ?_
      rintro e w1 ⟨rfl, rfl⟩
      clear hdig
      go_wp2_with fail
      refine (HSP _).mono ?_
      rintro e w1 ⟨rfl, rfl⟩
      clear HSP
      go_wp2_with fail
      obtain ⟨hm22, hneq, hlast⟩ := (show Wm (T.extract k j) m from HW)
      clear HW
      have HNQ : Hid (∀ j', j' < m → ((wordsB j').toList == (T.extract k j).toList) = false) := hneq
      have HLA : Hid (m = 22 ∨ ((wordsB m).toList == (T.extract k j).toList) = true) := hlast
      clear hneq hlast
      go_loop [34] (fun a => ∃ i : Nat, a = .int .i64 i ∧ i ≤ m) (fun a => 22 - (intOf a).toNat)
      case atStart => exact ⟨0, rfl, Nat.zero_le _⟩
      case round =>
        obtain ⟨i, rfl, him⟩ := hrel
        by_cases hi : i < m
        · have hc := (show ∀ j', j' < m → ((wordsB j').toList == (T.extract k j).toList) = false from HNQ) i hi
          have hg := words_get i (by omega)
          have hi22 : (i : Int) < 22 := by omega
          clear HNQ HLA HE
          generalize wordsB i = X at *
          generalize T.extract k j = S at *
          go_wp2_with fail
          refine ⟨⟨i + 1, by go_num, by omega⟩, ?_⟩
          simp [intOf]; omega
        · obtain rfl : i = m := by omega
          by_cases h22 : i = 22
          · have ek : wkI i = 1 := by unfold wkI; rw [if_neg (by omega)]
            have et : wkT i (T.extract k j) = T.extract k j := by unfold wkT; rw [if_neg (by omega)]
            have HF : Hid (∀ a b : Value, (Value.tuple #[tokV 1 k j 0 0 (T.extract k j), .int .i64 (-1)]) = Value.tuple #[tokV (wkI i) k (en isW L k) 0 0 (wkT i (T.extract k (en isW L k))), .int .i64 (-1)]) := by
              show ∀ a b : Value, _
              intro _ _
              rw [show en isW L k = j from HE, ek, et]
            subst h22
            clear HNQ HLA HE ek et
            generalize T.extract k j = S at *
            go_wp2_with fail
            refine bodyPost_ret (by simp [results, Tryd.results32, go_sem]; rfl) rfl ?_
            refine ⟨?_, ?_⟩
            · exact congrArg Ending.returned ((show ∀ a b : Value, _ from HF) undef undef)
            · exact bel3 w _ _ _
          · have hc := (show i = 22 ∨ ((wordsB i).toList == (T.extract k j).toList) = true from HLA).resolve_left h22
            have hg := words_get i (by omega)
            have hi22 : (i : Int) < 22 := by omega
            have ek : wkI i = 10 + (i : Int) := by unfold wkI; rw [if_pos (by omega)]
            have et : wkT i (T.extract k j) = ⟨#[]⟩ := by unfold wkT; rw [if_pos (by omega)]
            have HF : Hid (∀ a b : Value, (Value.tuple #[tokV (10 + (i : Int)) k j 0 0 ⟨#[]⟩, .int .i64 (-1)]) = Value.tuple #[tokV (wkI i) k (en isW L k) 0 0 (wkT i (T.extract k (en isW L k))), .int .i64 (-1)]) := by
              show ∀ a b : Value, _
              intro _ _
              rw [show en isW L k = j from HE, ek, et]
            clear HNQ HLA HE ek et
            generalize wordsB i = X at *
            generalize T.extract k j = S at *
            go_wp2_with fail
            refine bodyPost_ret (by simp [results, Tryd.results32, go_sem]; rfl) rfl ?_
            refine ⟨?_, ?_⟩
            · exact congrArg Ending.returned ((show ∀ a b : Value, _ from HF) undef undef)
            · exact bel3 w _ _ _
end Go.Proofs.YtogenhnonjkanaaDoor
