import Derived.Test.YtogenhnonjkanaaDoorSab
namespace Go.Proofs.YtogenhnonjkanaaDoor
open Go.ChangeShapes Go.WideShapes Go.ChangeAt Go.RowKit
set_option linter.unusedVariables false
theorem has_pre (S p : ByteArray) (z : Bool) (hz : (S.data.toList.take p.data.toList.length == p.data.toList) = z) (w : World) :
    Calls Tryd.prog 74 #[.string S, .string p] w fun e w' => e = .returned (.bool z) ∧ w' = w := by
  have e1 : p.data.toList.length = p.size := by simp
  have e2 : S.data.toList.length = S.size := by simp
  by_cases h : p.size ≤ S.size
  · have hi : (p.size : Int) ≤ (S.size : Int) := by omega
    have hcmp : ((S.extract 0 p.size).toList == p.toList) = z := by
      rw [Lib.extract_toList, Lib.toList_data]; rw [e1] at hz; simpa using hz
    clear hz h e1 e2
    go_enter Tryd.func74, Tryd.ntmps74
    go_wp2
    go_ret
    exact ⟨rfl, rfl⟩
  · have hi : ¬ (p.size : Int) ≤ (S.size : Int) := by omega
    have hz2 : z = false := by
      rw [← hz]
      apply Bool.eq_false_iff.2
      intro g
      have g2 := eq_of_beq g
      have := congrArg List.length g2
      rw [List.length_take] at this
      omega
    subst hz2
    clear hz h e1 e2
    go_enter Tryd.func74, Tryd.ntmps74
    go_wp2
    go_ret
    exact ⟨rfl, rfl⟩
theorem sees_run {B : Nat} {T : ByteArray} {k : Nat} {l : Int} {st : Bool} (p : ByteArray) (z : Bool) (hk : k ≤ T.size) (hz : pre T.data.toList k p.data.toList = z) (w : World) (h : Sb B T k l st w) :
    Calls Tryd.prog 62 #[.pointer (some ⟨B, 0, none⟩), .string p] w fun e w' => e = .returned (.bool z) ∧ ∃ m, w' = w.drewN m := by
  have b0 := h.c0
  have b1 := h.c1
  have hsl : ∀ W : World, (Instr.slice 9 (.string T) (some (.int .i64 (k : Int))) none none).run Tryd.prog W = .ok (.string (T.extract k T.size)) W := drop_slice T k hk
  have H := has_pre (T.extract k T.size) p z (by rw [Lib.extract_data]; unfold pre at hz; rw [← hz]; congr 2; rw [List.take_of_length_le (l := List.drop k T.data.toList)]; simp)
  clear h hz hk
  generalize T.extract k T.size = S at *
  go_enter Tryd.func62, Tryd.ntmps62
  go_wp2_with fail
  go_quiet ((go_at_call 74; exact Calls.quiet_of_same (H _)))
  go_wp2_with fail
  go_ret
  exact ⟨rfl, _, rfl⟩
/-- a byte of the text, 0 behind its end -/
def lk (L : List UInt8) (k : Nat) : UInt8 := L.getD k 0
theorem lk_some {L : List UInt8} {k : Nat} {x : UInt8} (h : L[k]? = some x) : lk L k = x := by unfold lk; rw [List.getD, h]; rfl
theorem lk_none {L : List UInt8} {k : Nat} (h : L.length ≤ k) : lk L k = 0 := by unfold lk; rw [List.getD, List.getElem?_eq_none h]; rfl
theorem spec_look (T : ByteArray) (L : List UInt8) (hT : T.data.toList = L) (k : Nat) (w : World) :
    Calls Tryd.prog 30 #[.string T, .int .i64 (k : Int)] w fun e w' => e = .returned (.int .u8 ((lk L k).toNat : Int)) ∧ w' = w := by
  have hs : T.size = L.length := by rw [← hT]; simp
  by_cases h : k < L.length
  · have hx := List.getElem?_eq_getElem h
    have hix := ix T L hT k _ hx
    rw [lk_some hx]
    generalize ((L[k]).toNat : Int) = xi at *
    have hi : (k : Int) < (T.size : Int) := by omega
    clear hx h hs hT
    go_enter Tryd.func30, Tryd.ntmps30
    go_wp2
    go_ret
    exact ⟨rfl, rfl⟩
  · rw [lk_none (by omega)]
    have hi : ¬ (k : Int) < (T.size : Int) := by omega
    clear h hs hT
    go_enter Tryd.func30, Tryd.ntmps30
    go_wp2
    go_ret
    exact ⟨rfl, rfl⟩
/-- how many bytes are blank -/
def skb : Bool → List UInt8 → Nat
  | _, [] => 0
  | true, c :: r => if c.toNat = 10 then 0 else 1 + skb true r
  | false, c :: r => if c.toNat = 32 ∨ c.toNat = 9 ∨ c.toNat = 13 then 1 + skb false r else if c.toNat = 45 ∧ r.head? = some 45 then 1 + skb true r else 0
theorem skb_t (c : UInt8) (r : List UInt8) : skb true (c :: r) = if c.toNat = 10 then 0 else 1 + skb true r := by rw [skb]
theorem skb_f (c : UInt8) (r : List UInt8) : skb false (c :: r) = if c.toNat = 32 ∨ c.toNat = 9 ∨ c.toNat = 13 then 1 + skb false r else if c.toNat = 45 ∧ r.head? = some 45 then 1 + skb true r else 0 := by rw [skb]
theorem skb_le : ∀ (b : Bool) (r : List UInt8), skb b r ≤ r.length
  | _, [] => by simp [skb]
  | true, c :: r => by unfold skb; have := skb_le true r; split <;> simp <;> omega
  | false, c :: r => by
    unfold skb; have := skb_le true r; have := skb_le false r
    split
    · simp; omega
    · split <;> simp <;> omega
theorem skb_true_end : ∀ (r : List UInt8), skb false (r.drop (skb true r)) = 0
  | [] => by simp [skb]
  | c :: r => by
    rw [skb_t]
    by_cases h : c.toNat = 10
    · rw [if_pos h]; simp [skb_f, h]
    · rw [if_neg h, Nat.add_comm]; simpa using skb_true_end r
/-- where the blanks end -/
def bl (L : List UInt8) (k : Nat) : Nat := k + skb false (L.drop k)
theorem bl_le (L : List UInt8) (k : Nat) (hk : k ≤ L.length) : bl L k ≤ L.length := by
  unfold bl; have := skb_le false (L.drop k); rw [List.length_drop] at this; omega
theorem drop_cons {L : List UInt8} {k : Nat} {x : UInt8} (h : L[k]? = some x) : L.drop k = x :: L.drop (k + 1) := by
  obtain ⟨h1, h2⟩ := List.getElem?_eq_some_iff.1 h
  rw [List.drop_eq_getElem_cons h1, h2]
theorem bl_end {L : List UInt8} {k : Nat} (h : L.length ≤ k) : bl L k = k := by unfold bl; rw [List.drop_eq_nil_of_le h]; simp [skb]
theorem bl_blank {L : List UInt8} {k : Nat} {x : UInt8} (h : L[k]? = some x) (hx : x.toNat = 32 ∨ x.toNat = 9 ∨ x.toNat = 13) : bl L k = bl L (k + 1) := by
  unfold bl; rw [drop_cons h, skb_f, if_pos hx]; omega
/-- the end of a remark -/
def rem (L : List UInt8) (k : Nat) : Nat := k + skb true (L.drop k)
theorem bl_remark {L : List UInt8} {k : Nat} (h : L[k]? = some 45) (h2 : L[k + 1]? = some 45) : bl L k = rem L k ∧ bl L (rem L k) = rem L k ∧ k < rem L k := by
  have e : L.drop k = 45 :: L.drop (k + 1) := drop_cons h
  have hh : (L.drop (k + 1)).head? = some 45 := by rw [drop_cons h2]; rfl
  have e1 : skb false (L.drop k) = 1 + skb true (L.drop (k + 1)) := by
    rw [e, skb_f, if_neg (by decide), if_pos ⟨by decide, hh⟩]
  have e2 : skb true (L.drop k) = 1 + skb true (L.drop (k + 1)) := by
    rw [e, skb_t, if_neg (by decide)]
  have e3 := skb_true_end (L.drop k)
  rw [List.drop_drop] at e3
  refine ⟨by unfold bl rem; omega, ?_, by unfold rem; omega⟩
  show rem L k + skb false (L.drop (rem L k)) = rem L k
  have : rem L k = k + skb true (L.drop k) := rfl
  rw [this, e3]
  rfl
theorem bl_other {L : List UInt8} {k : Nat} {x : UInt8} (h : L[k]? = some x) (hx : ¬ (x.toNat = 32 ∨ x.toNat = 9 ∨ x.toNat = 13)) (h2 : ¬ (x.toNat = 45 ∧ L[k + 1]? = some 45)) : bl L k = k := by
  unfold bl
  rw [drop_cons h, skb_f, if_neg hx, if_neg (by rw [List.head?_drop]; exact h2)]
  rfl
theorem rem_end {L : List UInt8} {k : Nat} (h : L.length ≤ k) : rem L k = k := by unfold rem; rw [List.drop_eq_nil_of_le h]; simp [skb]
theorem rem_nl {L : List UInt8} {k : Nat} {x : UInt8} (h : L[k]? = some x) (hx : x.toNat = 10) : rem L k = k := by unfold rem; rw [drop_cons h, skb_t, if_pos hx]; rfl
theorem rem_step {L : List UInt8} {k : Nat} {x : UInt8} (h : L[k]? = some x) (hx : ¬ x.toNat = 10) : rem L k = rem L (k + 1) := by
  unfold rem; rw [drop_cons h, skb_t, if_neg hx]; omega
theorem rem_le (L : List UInt8) (k : Nat) (hk : k ≤ L.length) : rem L k ≤ L.length := by
  unfold rem; have := skb_le true (L.drop k); rw [List.length_drop] at this; omega
theorem rem_ge (L : List UInt8) (k : Nat) : k ≤ rem L k := by unfold rem; omega
theorem bl_ge (L : List UInt8) (k : Nat) : k ≤ bl L k := by unfold bl; omega
end Go.Proofs.YtogenhnonjkanaaDoor
