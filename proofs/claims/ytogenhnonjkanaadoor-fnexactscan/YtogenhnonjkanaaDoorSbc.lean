import Derived.Test.YtogenhnonjkanaaDoorSbb
namespace Go.Proofs.YtogenhnonjkanaaDoor
open Go.ChangeShapes Go.WideShapes Go.ChangeAt Go.RowKit
set_option linter.unusedVariables false
/-- an element of a string: whether it is one, its byte, where it ends or cannot go on -/
inductive Elt (L : List UInt8) (j : Nat) : Bool → Int → Nat → Prop
  | plain (x : UInt8) (h : L[j]? = some x) (hx : x ≠ 92) : Elt L j true (x.toNat : Int) (j + 1)
  | simple (c : UInt8) (v : Int) (h : L[j]? = some 92) (hc : L[j + 1]? = some c) (hv : (c = 110 ∧ v = 10) ∨ (c = 116 ∧ v = 9) ∨ (c = 34 ∧ v = 34) ∨ (c = 92 ∧ v = 92)) : Elt L j true v (j + 2)
  | hex (x y : UInt8) (h : L[j]? = some 92) (hc : L[j + 1]? = some 120) (hx : L[j + 2]? = some x) (hxd : Rd.dw x < 16) (hy : L[j + 3]? = some y) (hyd : Rd.dw y < 16) : Elt L j true ((Rd.dw x : Int) * 16 + (Rd.dw y : Int)) (j + 4)
  | hexA (h : L[j]? = some 92) (hc : L[j + 1]? = some 120) (hno : NoHex L (j + 2)) : Elt L j false 0 (j + 2)
  | hexB (x : UInt8) (h : L[j]? = some 92) (hc : L[j + 1]? = some 120) (hx : L[j + 2]? = some x) (hxd : Rd.dw x < 16) (hno : NoHex L (j + 3)) : Elt L j false 0 (j + 3)
  | none (h : L[j]? = some 92) (hc : L[j + 1]? ≠ some 110 ∧ L[j + 1]? ≠ some 116 ∧ L[j + 1]? ≠ some 34 ∧ L[j + 1]? ≠ some 92 ∧ L[j + 1]? ≠ some 120) : Elt L j false 0 (j + 1)
theorem elt_any (L : List UInt8) (j : Nat) (hj : j < L.length) : ∃ ok v e, Elt L j ok v e := by
  have hx := List.getElem?_eq_getElem hj
  by_cases h92 : L[j] = 92
  · rw [h92] at hx
    by_cases h1 : L[j + 1]? = some 110
    · exact ⟨_, _, _, .simple 110 10 hx h1 (.inl ⟨rfl, rfl⟩)⟩
    · by_cases h2 : L[j + 1]? = some 116
      · exact ⟨_, _, _, .simple 116 9 hx h2 (.inr (.inl ⟨rfl, rfl⟩))⟩
      · by_cases h3 : L[j + 1]? = some 34
        · exact ⟨_, _, _, .simple 34 34 hx h3 (.inr (.inr (.inl ⟨rfl, rfl⟩)))⟩
        · by_cases h4 : L[j + 1]? = some 92
          · exact ⟨_, _, _, .simple 92 92 hx h4 (.inr (.inr (.inr ⟨rfl, rfl⟩)))⟩
          · by_cases h5 : L[j + 1]? = some 120
            · rcases nohex_or L (j + 2) with hn | ⟨x, hx1, hx2⟩
              · exact ⟨_, _, _, .hexA hx h5 hn⟩
              · rcases nohex_or L (j + 3) with hn | ⟨y, hy1, hy2⟩
                · exact ⟨_, _, _, .hexB x hx h5 hx1 hx2 hn⟩
                · exact ⟨_, _, _, .hex x y hx h5 hx1 hx2 hy1 hy2⟩
            · exact ⟨_, _, _, .none hx ⟨h1, h2, h3, h4, h5⟩⟩
  · exact ⟨_, _, _, .plain _ hx h92⟩
theorem Elt.gt {L : List UInt8} {j : Nat} {ok : Bool} {v : Int} {e : Nat} (h : Elt L j ok v e) : j < e := by cases h <;> omega
theorem Elt.le {L : List UInt8} {j : Nat} {ok : Bool} {v : Int} {e : Nat} (h : Elt L j ok v e) : e ≤ L.length := by
  have lt : ∀ {i : Nat} {x : UInt8}, L[i]? = some x → i < L.length := fun hx => (List.getElem?_eq_some_iff.1 hx).1
  cases h with
  | plain x h hx => have := lt h; omega
  | simple c v h hc hv => have := lt hc; omega
  | hex x y h hc hx hxd hy hyd => have := lt hy; omega
  | hexA h hc hno => have := lt hc; omega
  | hexB x h hc hx hxd hno => have := lt hx; omega
  | none h hc => have := lt h; omega
end Go.Proofs.YtogenhnonjkanaaDoor
