import Derived.Test.YtjggnnmnegcpjaaGreatDoorMSkf
import Derived.Test.YtjggnnmnegcpjaaGreatDoorMSkg
import Derived.Test.YtjggnnmnegcpjaaGreatDoorMSkxd
namespace Go.Proofs.YtjggnnmnegcpjaaGreatDoor.Fo
open Go.ChangeShapes Go.WideShapes Go.ChangeAt Go.RowKit
set_option linter.unusedVariables false
/-- what the model asks of a form, kind by kind -/
def shk (nm fl : ByteArray → Prop) (F : Nat → Gv) (a : Fv) (p : Nat) (A : Nat → ByteArray) (q : Nat) (K : Nat → Int) : Prop :=
  if a.k = 1 then ((∀ j, j < q → 1 ≤ kdk F K j ∧ kdk F K j ≤ 16) ∧ br a p false false false false)
  else if a.k = 2 then (br a p false false false true ∧ nd nm p A 1 200 ∧ ex F K 0 q)
  else if a.k = 3 then (br a p false false false true ∧ nd nm p A 1 1 ∧ q = 1 ∧ ex F K 0 1)
  else if a.k = 4 then (br a p false false false true ∧ nd nm p A 1 1 ∧ q = 1 ∧ kdk F K 0 = 36)
  else if a.k = 5 then (br a p false true false false ∧ 1 ≤ a.m ∧ a.m < (q : Int) ∧ (∀ j, j < a.m.toNat → kdk F K j = 26 ∨ kdk F K j = 32 ∨ kdk F K j = 33) ∧ ex F K a.m.toNat q)
  else if a.k = 6 then (br a p false false false false ∧ q = 1 ∧ kdk F K 0 = 34)
  else if a.k = 7 then (br a p false false false false ∧ (q = 2 ∨ q = 3) ∧ ex F K 0 1 ∧ kdk F K 1 = 1 ∧ (q = 2 ∨ kdk F K 2 = 1 ∨ kdk F K 2 = 7))
  else if a.k = 8 then (br a p false false false false ∧ q = 2 ∧ ex F K 0 1 ∧ kdk F K 1 = 1)
  else if a.k = 9 then (br a p false false false true ∧ nd nm p A 1 1 ∧ (q = 3 ∨ q = 4) ∧ ex F K 0 (q - 1) ∧ kdk F K (q - 1) = 1)
  else if a.k = 10 then (br a p false false false true ∧ nd nm p A 1 200 ∧ q = 2 ∧ ex F K 0 1 ∧ kdk F K 1 = 1)
  else if a.k = 11 then (br a p false false false false ∧ q = 0)
  else if a.k = 12 then (br a p false false false false ∧ q = 0)
  else if a.k = 13 then (br a p false false false false ∧ ex F K 0 q)
  else if a.k = 14 then (br a p false false false true ∧ nd nm p A 1 2 ∧ q = 2 ∧ kdk F K 0 = 1 ∧ kdk F K 1 = 1)
  else if a.k = 15 then (br a p false false false false ∧ q = 1 ∧ ex F K 0 1)
  else if a.k = 16 then (br a p false false false false ∧ q = 1 ∧ kdk F K 0 = 34)
  else if a.k = 20 then (q = 0 ∧ br a p false false false false)
  else if a.k = 21 then (q = 0 ∧ br a p false false false false)
  else if a.k = 22 then (q = 0 ∧ br a p false false false false)
  else if a.k = 23 then (q = 0 ∧ br a p false true false false)
  else if a.k = 24 then (q = 0 ∧ br a p false false true false ∧ fl a.x)
  else if a.k = 25 then (q = 0 ∧ br a p false false true false ∧ a.x.size ≤ 4000)
  else if a.k = 26 then (q = 0 ∧ br a p false false true false ∧ nm a.x)
  else if a.k = 27 then (q = 0 ∧ br a p false false false false)
  else if a.k = 28 then (q = 2 ∧ ex F K 0 2 ∧ br a p false false false false)
  else if a.k = 29 then (q = 2 ∧ ex F K 0 2 ∧ br a p false false false false)
  else if a.k = 30 then (q = 1 ∧ ex F K 0 1 ∧ br a p true false false false ∧ 19 ≤ a.o ∧ a.o ≤ 22)
  else if a.k = 31 then (q = 2 ∧ ex F K 0 2 ∧ br a p true false false false ∧ 1 ≤ a.o ∧ a.o ≤ 18)
  else if a.k = 32 then (q = 2 ∧ ex F K 0 2 ∧ kdk F K 0 ≠ 27 ∧ br a p false false false false)
  else if a.k = 33 then (q = 1 ∧ ex F K 0 1 ∧ kdk F K 0 ≠ 27 ∧ br a p false false true false ∧ nm a.x)
  else if a.k = 34 then (1 ≤ q ∧ ex F K 0 q ∧ kdk F K 0 ≠ 27 ∧ br a p false false false false)
  else if a.k = 35 then ((∀ j, j < q → 40 ≤ kdk F K j ∧ kdk F K j ≤ 42) ∧ br a p false false false false)
  else if a.k = 36 then (q = 1 ∧ kdk F K 0 = 1 ∧ br a p true false false true ∧ nd nm p A 0 200 ∧ (a.o = 0 ∨ a.o = 1))
  else if a.k = 37 then (q = 1 ∧ (kdk F K 0 = 34 ∨ kdk F K 0 = 27) ∧ br a p false false false false)
  else if a.k = 40 then (q = 1 ∧ ex F K 0 1 ∧ br a p false false false false)
  else if a.k = 41 then (q = 2 ∧ ex F K 0 2 ∧ br a p false false false false)
  else if a.k = 42 then (q = 1 ∧ ex F K 0 1 ∧ br a p false false true false ∧ nm a.x)
  else False
theorem shk_1 {nm fl : ByteArray → Prop} {F : Nat → Gv} {a : Fv} {p : Nat} {A : Nat → ByteArray} {q : Nat} {K : Nat → Int} (h : a.k = 1) : shk nm fl F a p A q K = ((∀ j, j < q → 1 ≤ kdk F K j ∧ kdk F K j ≤ 16) ∧ br a p false false false false) := by
  unfold shk
  rw [if_pos h]
theorem shk_2 {nm fl : ByteArray → Prop} {F : Nat → Gv} {a : Fv} {p : Nat} {A : Nat → ByteArray} {q : Nat} {K : Nat → Int} (h : a.k = 2) : shk nm fl F a p A q K = (br a p false false false true ∧ nd nm p A 1 200 ∧ ex F K 0 q) := by
  unfold shk
  rw [if_neg (by omega)]
  rw [if_pos h]
theorem shk_3 {nm fl : ByteArray → Prop} {F : Nat → Gv} {a : Fv} {p : Nat} {A : Nat → ByteArray} {q : Nat} {K : Nat → Int} (h : a.k = 3) : shk nm fl F a p A q K = (br a p false false false true ∧ nd nm p A 1 1 ∧ q = 1 ∧ ex F K 0 1) := by
  unfold shk
  rw [if_neg (by omega)]
  rw [if_neg (by omega)]
  rw [if_pos h]
theorem shk_4 {nm fl : ByteArray → Prop} {F : Nat → Gv} {a : Fv} {p : Nat} {A : Nat → ByteArray} {q : Nat} {K : Nat → Int} (h : a.k = 4) : shk nm fl F a p A q K = (br a p false false false true ∧ nd nm p A 1 1 ∧ q = 1 ∧ kdk F K 0 = 36) := by
  unfold shk
  rw [if_neg (by omega)]
  rw [if_neg (by omega)]
  rw [if_neg (by omega)]
  rw [if_pos h]
theorem shk_5 {nm fl : ByteArray → Prop} {F : Nat → Gv} {a : Fv} {p : Nat} {A : Nat → ByteArray} {q : Nat} {K : Nat → Int} (h : a.k = 5) : shk nm fl F a p A q K = (br a p false true false false ∧ 1 ≤ a.m ∧ a.m < (q : Int) ∧ (∀ j, j < a.m.toNat → kdk F K j = 26 ∨ kdk F K j = 32 ∨ kdk F K j = 33) ∧ ex F K a.m.toNat q) := by
  unfold shk
  rw [if_neg (by omega)]
  rw [if_neg (by omega)]
  rw [if_neg (by omega)]
  rw [if_neg (by omega)]
  rw [if_pos h]
theorem shk_6 {nm fl : ByteArray → Prop} {F : Nat → Gv} {a : Fv} {p : Nat} {A : Nat → ByteArray} {q : Nat} {K : Nat → Int} (h : a.k = 6) : shk nm fl F a p A q K = (br a p false false false false ∧ q = 1 ∧ kdk F K 0 = 34) := by
  unfold shk
  rw [if_neg (by omega)]
  rw [if_neg (by omega)]
  rw [if_neg (by omega)]
  rw [if_neg (by omega)]
  rw [if_neg (by omega)]
  rw [if_pos h]
theorem shk_7 {nm fl : ByteArray → Prop} {F : Nat → Gv} {a : Fv} {p : Nat} {A : Nat → ByteArray} {q : Nat} {K : Nat → Int} (h : a.k = 7) : shk nm fl F a p A q K = (br a p false false false false ∧ (q = 2 ∨ q = 3) ∧ ex F K 0 1 ∧ kdk F K 1 = 1 ∧ (q = 2 ∨ kdk F K 2 = 1 ∨ kdk F K 2 = 7)) := by
  unfold shk
  rw [if_neg (by omega)]
  rw [if_neg (by omega)]
  rw [if_neg (by omega)]
  rw [if_neg (by omega)]
  rw [if_neg (by omega)]
  rw [if_neg (by omega)]
  rw [if_pos h]
theorem shk_8 {nm fl : ByteArray → Prop} {F : Nat → Gv} {a : Fv} {p : Nat} {A : Nat → ByteArray} {q : Nat} {K : Nat → Int} (h : a.k = 8) : shk nm fl F a p A q K = (br a p false false false false ∧ q = 2 ∧ ex F K 0 1 ∧ kdk F K 1 = 1) := by
  unfold shk
  rw [if_neg (by omega)]
  rw [if_neg (by omega)]
  rw [if_neg (by omega)]
  rw [if_neg (by omega)]
  rw [if_neg (by omega)]
  rw [if_neg (by omega)]
  rw [if_neg (by omega)]
  rw [if_pos h]
theorem shk_9 {nm fl : ByteArray → Prop} {F : Nat → Gv} {a : Fv} {p : Nat} {A : Nat → ByteArray} {q : Nat} {K : Nat → Int} (h : a.k = 9) : shk nm fl F a p A q K = (br a p false false false true ∧ nd nm p A 1 1 ∧ (q = 3 ∨ q = 4) ∧ ex F K 0 (q - 1) ∧ kdk F K (q - 1) = 1) := by
  unfold shk
  rw [if_neg (by omega)]
  rw [if_neg (by omega)]
  rw [if_neg (by omega)]
  rw [if_neg (by omega)]
  rw [if_neg (by omega)]
  rw [if_neg (by omega)]
  rw [if_neg (by omega)]
  rw [if_neg (by omega)]
  rw [if_pos h]
theorem shk_10 {nm fl : ByteArray → Prop} {F : Nat → Gv} {a : Fv} {p : Nat} {A : Nat → ByteArray} {q : Nat} {K : Nat → Int} (h : a.k = 10) : shk nm fl F a p A q K = (br a p false false false true ∧ nd nm p A 1 200 ∧ q = 2 ∧ ex F K 0 1 ∧ kdk F K 1 = 1) := by
  unfold shk
  rw [if_neg (by omega)]
  rw [if_neg (by omega)]
  rw [if_neg (by omega)]
  rw [if_neg (by omega)]
  rw [if_neg (by omega)]
  rw [if_neg (by omega)]
  rw [if_neg (by omega)]
  rw [if_neg (by omega)]
  rw [if_neg (by omega)]
  rw [if_pos h]
theorem shk_11 {nm fl : ByteArray → Prop} {F : Nat → Gv} {a : Fv} {p : Nat} {A : Nat → ByteArray} {q : Nat} {K : Nat → Int} (h : a.k = 11) : shk nm fl F a p A q K = (br a p false false false false ∧ q = 0) := by
  unfold shk
  rw [if_neg (by omega)]
  rw [if_neg (by omega)]
  rw [if_neg (by omega)]
  rw [if_neg (by omega)]
  rw [if_neg (by omega)]
  rw [if_neg (by omega)]
  rw [if_neg (by omega)]
  rw [if_neg (by omega)]
  rw [if_neg (by omega)]
  rw [if_neg (by omega)]
  rw [if_pos h]
theorem shk_12 {nm fl : ByteArray → Prop} {F : Nat → Gv} {a : Fv} {p : Nat} {A : Nat → ByteArray} {q : Nat} {K : Nat → Int} (h : a.k = 12) : shk nm fl F a p A q K = (br a p false false false false ∧ q = 0) := by
  unfold shk
  rw [if_neg (by omega)]
  rw [if_neg (by omega)]
  rw [if_neg (by omega)]
  rw [if_neg (by omega)]
  rw [if_neg (by omega)]
  rw [if_neg (by omega)]
  rw [if_neg (by omega)]
  rw [if_neg (by omega)]
  rw [if_neg (by omega)]
  rw [if_neg (by omega)]
  rw [if_neg (by omega)]
  rw [if_pos h]
theorem shk_13 {nm fl : ByteArray → Prop} {F : Nat → Gv} {a : Fv} {p : Nat} {A : Nat → ByteArray} {q : Nat} {K : Nat → Int} (h : a.k = 13) : shk nm fl F a p A q K = (br a p false false false false ∧ ex F K 0 q) := by
  unfold shk
  rw [if_neg (by omega)]
  rw [if_neg (by omega)]
  rw [if_neg (by omega)]
  rw [if_neg (by omega)]
  rw [if_neg (by omega)]
  rw [if_neg (by omega)]
  rw [if_neg (by omega)]
  rw [if_neg (by omega)]
  rw [if_neg (by omega)]
  rw [if_neg (by omega)]
  rw [if_neg (by omega)]
  rw [if_neg (by omega)]
  rw [if_pos h]
theorem shk_14 {nm fl : ByteArray → Prop} {F : Nat → Gv} {a : Fv} {p : Nat} {A : Nat → ByteArray} {q : Nat} {K : Nat → Int} (h : a.k = 14) : shk nm fl F a p A q K = (br a p false false false true ∧ nd nm p A 1 2 ∧ q = 2 ∧ kdk F K 0 = 1 ∧ kdk F K 1 = 1) := by
  unfold shk
  rw [if_neg (by omega)]
  rw [if_neg (by omega)]
  rw [if_neg (by omega)]
  rw [if_neg (by omega)]
  rw [if_neg (by omega)]
  rw [if_neg (by omega)]
  rw [if_neg (by omega)]
  rw [if_neg (by omega)]
  rw [if_neg (by omega)]
  rw [if_neg (by omega)]
  rw [if_neg (by omega)]
  rw [if_neg (by omega)]
  rw [if_neg (by omega)]
  rw [if_pos h]
theorem shk_15 {nm fl : ByteArray → Prop} {F : Nat → Gv} {a : Fv} {p : Nat} {A : Nat → ByteArray} {q : Nat} {K : Nat → Int} (h : a.k = 15) : shk nm fl F a p A q K = (br a p false false false false ∧ q = 1 ∧ ex F K 0 1) := by
  unfold shk
  rw [if_neg (by omega)]
  rw [if_neg (by omega)]
  rw [if_neg (by omega)]
  rw [if_neg (by omega)]
  rw [if_neg (by omega)]
  rw [if_neg (by omega)]
  rw [if_neg (by omega)]
  rw [if_neg (by omega)]
  rw [if_neg (by omega)]
  rw [if_neg (by omega)]
  rw [if_neg (by omega)]
  rw [if_neg (by omega)]
  rw [if_neg (by omega)]
  rw [if_neg (by omega)]
  rw [if_pos h]
theorem shk_16 {nm fl : ByteArray → Prop} {F : Nat → Gv} {a : Fv} {p : Nat} {A : Nat → ByteArray} {q : Nat} {K : Nat → Int} (h : a.k = 16) : shk nm fl F a p A q K = (br a p false false false false ∧ q = 1 ∧ kdk F K 0 = 34) := by
  unfold shk
  rw [if_neg (by omega)]
  rw [if_neg (by omega)]
  rw [if_neg (by omega)]
  rw [if_neg (by omega)]
  rw [if_neg (by omega)]
  rw [if_neg (by omega)]
  rw [if_neg (by omega)]
  rw [if_neg (by omega)]
  rw [if_neg (by omega)]
  rw [if_neg (by omega)]
  rw [if_neg (by omega)]
  rw [if_neg (by omega)]
  rw [if_neg (by omega)]
  rw [if_neg (by omega)]
  rw [if_neg (by omega)]
  rw [if_pos h]
theorem shk_20 {nm fl : ByteArray → Prop} {F : Nat → Gv} {a : Fv} {p : Nat} {A : Nat → ByteArray} {q : Nat} {K : Nat → Int} (h : a.k = 20) : shk nm fl F a p A q K = (q = 0 ∧ br a p false false false false) := by
  unfold shk
  rw [if_neg (by omega)]
  rw [if_neg (by omega)]
  rw [if_neg (by omega)]
  rw [if_neg (by omega)]
  rw [if_neg (by omega)]
  rw [if_neg (by omega)]
  rw [if_neg (by omega)]
  rw [if_neg (by omega)]
  rw [if_neg (by omega)]
  rw [if_neg (by omega)]
  rw [if_neg (by omega)]
  rw [if_neg (by omega)]
  rw [if_neg (by omega)]
  rw [if_neg (by omega)]
  rw [if_neg (by omega)]
  rw [if_neg (by omega)]
  rw [if_pos h]
theorem shk_21 {nm fl : ByteArray → Prop} {F : Nat → Gv} {a : Fv} {p : Nat} {A : Nat → ByteArray} {q : Nat} {K : Nat → Int} (h : a.k = 21) : shk nm fl F a p A q K = (q = 0 ∧ br a p false false false false) := by
  unfold shk
  rw [if_neg (by omega)]
  rw [if_neg (by omega)]
  rw [if_neg (by omega)]
  rw [if_neg (by omega)]
  rw [if_neg (by omega)]
  rw [if_neg (by omega)]
  rw [if_neg (by omega)]
  rw [if_neg (by omega)]
  rw [if_neg (by omega)]
  rw [if_neg (by omega)]
  rw [if_neg (by omega)]
  rw [if_neg (by omega)]
  rw [if_neg (by omega)]
  rw [if_neg (by omega)]
  rw [if_neg (by omega)]
  rw [if_neg (by omega)]
  rw [if_neg (by omega)]
  rw [if_pos h]
theorem shk_22 {nm fl : ByteArray → Prop} {F : Nat → Gv} {a : Fv} {p : Nat} {A : Nat → ByteArray} {q : Nat} {K : Nat → Int} (h : a.k = 22) : shk nm fl F a p A q K = (q = 0 ∧ br a p false false false false) := by
  unfold shk
  rw [if_neg (by omega)]
  rw [if_neg (by omega)]
  rw [if_neg (by omega)]
  rw [if_neg (by omega)]
  rw [if_neg (by omega)]
  rw [if_neg (by omega)]
  rw [if_neg (by omega)]
  rw [if_neg (by omega)]
  rw [if_neg (by omega)]
  rw [if_neg (by omega)]
  rw [if_neg (by omega)]
  rw [if_neg (by omega)]
  rw [if_neg (by omega)]
  rw [if_neg (by omega)]
  rw [if_neg (by omega)]
  rw [if_neg (by omega)]
  rw [if_neg (by omega)]
  rw [if_neg (by omega)]
  rw [if_pos h]
theorem shk_23 {nm fl : ByteArray → Prop} {F : Nat → Gv} {a : Fv} {p : Nat} {A : Nat → ByteArray} {q : Nat} {K : Nat → Int} (h : a.k = 23) : shk nm fl F a p A q K = (q = 0 ∧ br a p false true false false) := by
  unfold shk
  rw [if_neg (by omega)]
  rw [if_neg (by omega)]
  rw [if_neg (by omega)]
  rw [if_neg (by omega)]
  rw [if_neg (by omega)]
  rw [if_neg (by omega)]
  rw [if_neg (by omega)]
  rw [if_neg (by omega)]
  rw [if_neg (by omega)]
  rw [if_neg (by omega)]
  rw [if_neg (by omega)]
  rw [if_neg (by omega)]
  rw [if_neg (by omega)]
  rw [if_neg (by omega)]
  rw [if_neg (by omega)]
  rw [if_neg (by omega)]
  rw [if_neg (by omega)]
  rw [if_neg (by omega)]
  rw [if_neg (by omega)]
  rw [if_pos h]
theorem shk_24 {nm fl : ByteArray → Prop} {F : Nat → Gv} {a : Fv} {p : Nat} {A : Nat → ByteArray} {q : Nat} {K : Nat → Int} (h : a.k = 24) : shk nm fl F a p A q K = (q = 0 ∧ br a p false false true false ∧ fl a.x) := by
  unfold shk
  rw [if_neg (by omega)]
  rw [if_neg (by omega)]
  rw [if_neg (by omega)]
  rw [if_neg (by omega)]
  rw [if_neg (by omega)]
  rw [if_neg (by omega)]
  rw [if_neg (by omega)]
  rw [if_neg (by omega)]
  rw [if_neg (by omega)]
  rw [if_neg (by omega)]
  rw [if_neg (by omega)]
  rw [if_neg (by omega)]
  rw [if_neg (by omega)]
  rw [if_neg (by omega)]
  rw [if_neg (by omega)]
  rw [if_neg (by omega)]
  rw [if_neg (by omega)]
  rw [if_neg (by omega)]
  rw [if_neg (by omega)]
  rw [if_neg (by omega)]
  rw [if_pos h]
theorem shk_25 {nm fl : ByteArray → Prop} {F : Nat → Gv} {a : Fv} {p : Nat} {A : Nat → ByteArray} {q : Nat} {K : Nat → Int} (h : a.k = 25) : shk nm fl F a p A q K = (q = 0 ∧ br a p false false true false ∧ a.x.size ≤ 4000) := by
  unfold shk
  rw [if_neg (by omega)]
  rw [if_neg (by omega)]
  rw [if_neg (by omega)]
  rw [if_neg (by omega)]
  rw [if_neg (by omega)]
  rw [if_neg (by omega)]
  rw [if_neg (by omega)]
  rw [if_neg (by omega)]
  rw [if_neg (by omega)]
  rw [if_neg (by omega)]
  rw [if_neg (by omega)]
  rw [if_neg (by omega)]
  rw [if_neg (by omega)]
  rw [if_neg (by omega)]
  rw [if_neg (by omega)]
  rw [if_neg (by omega)]
  rw [if_neg (by omega)]
  rw [if_neg (by omega)]
  rw [if_neg (by omega)]
  rw [if_neg (by omega)]
  rw [if_neg (by omega)]
  rw [if_pos h]
theorem shk_26 {nm fl : ByteArray → Prop} {F : Nat → Gv} {a : Fv} {p : Nat} {A : Nat → ByteArray} {q : Nat} {K : Nat → Int} (h : a.k = 26) : shk nm fl F a p A q K = (q = 0 ∧ br a p false false true false ∧ nm a.x) := by
  unfold shk
  rw [if_neg (by omega)]
  rw [if_neg (by omega)]
  rw [if_neg (by omega)]
  rw [if_neg (by omega)]
  rw [if_neg (by omega)]
  rw [if_neg (by omega)]
  rw [if_neg (by omega)]
  rw [if_neg (by omega)]
  rw [if_neg (by omega)]
  rw [if_neg (by omega)]
  rw [if_neg (by omega)]
  rw [if_neg (by omega)]
  rw [if_neg (by omega)]
  rw [if_neg (by omega)]
  rw [if_neg (by omega)]
  rw [if_neg (by omega)]
  rw [if_neg (by omega)]
  rw [if_neg (by omega)]
  rw [if_neg (by omega)]
  rw [if_neg (by omega)]
  rw [if_neg (by omega)]
  rw [if_neg (by omega)]
  rw [if_pos h]
theorem shk_27 {nm fl : ByteArray → Prop} {F : Nat → Gv} {a : Fv} {p : Nat} {A : Nat → ByteArray} {q : Nat} {K : Nat → Int} (h : a.k = 27) : shk nm fl F a p A q K = (q = 0 ∧ br a p false false false false) := by
  unfold shk
  rw [if_neg (by omega)]
  rw [if_neg (by omega)]
  rw [if_neg (by omega)]
  rw [if_neg (by omega)]
  rw [if_neg (by omega)]
  rw [if_neg (by omega)]
  rw [if_neg (by omega)]
  rw [if_neg (by omega)]
  rw [if_neg (by omega)]
  rw [if_neg (by omega)]
  rw [if_neg (by omega)]
  rw [if_neg (by omega)]
  rw [if_neg (by omega)]
  rw [if_neg (by omega)]
  rw [if_neg (by omega)]
  rw [if_neg (by omega)]
  rw [if_neg (by omega)]
  rw [if_neg (by omega)]
  rw [if_neg (by omega)]
  rw [if_neg (by omega)]
  rw [if_neg (by omega)]
  rw [if_neg (by omega)]
  rw [if_neg (by omega)]
  rw [if_pos h]
theorem shk_28 {nm fl : ByteArray → Prop} {F : Nat → Gv} {a : Fv} {p : Nat} {A : Nat → ByteArray} {q : Nat} {K : Nat → Int} (h : a.k = 28) : shk nm fl F a p A q K = (q = 2 ∧ ex F K 0 2 ∧ br a p false false false false) := by
  unfold shk
  rw [if_neg (by omega)]
  rw [if_neg (by omega)]
  rw [if_neg (by omega)]
  rw [if_neg (by omega)]
  rw [if_neg (by omega)]
  rw [if_neg (by omega)]
  rw [if_neg (by omega)]
  rw [if_neg (by omega)]
  rw [if_neg (by omega)]
  rw [if_neg (by omega)]
  rw [if_neg (by omega)]
  rw [if_neg (by omega)]
  rw [if_neg (by omega)]
  rw [if_neg (by omega)]
  rw [if_neg (by omega)]
  rw [if_neg (by omega)]
  rw [if_neg (by omega)]
  rw [if_neg (by omega)]
  rw [if_neg (by omega)]
  rw [if_neg (by omega)]
  rw [if_neg (by omega)]
  rw [if_neg (by omega)]
  rw [if_neg (by omega)]
  rw [if_neg (by omega)]
  rw [if_pos h]
theorem shk_29 {nm fl : ByteArray → Prop} {F : Nat → Gv} {a : Fv} {p : Nat} {A : Nat → ByteArray} {q : Nat} {K : Nat → Int} (h : a.k = 29) : shk nm fl F a p A q K = (q = 2 ∧ ex F K 0 2 ∧ br a p false false false false) := by
  unfold shk
  rw [if_neg (by omega)]
  rw [if_neg (by omega)]
  rw [if_neg (by omega)]
  rw [if_neg (by omega)]
  rw [if_neg (by omega)]
  rw [if_neg (by omega)]
  rw [if_neg (by omega)]
  rw [if_neg (by omega)]
  rw [if_neg (by omega)]
  rw [if_neg (by omega)]
  rw [if_neg (by omega)]
  rw [if_neg (by omega)]
  rw [if_neg (by omega)]
  rw [if_neg (by omega)]
  rw [if_neg (by omega)]
  rw [if_neg (by omega)]
  rw [if_neg (by omega)]
  rw [if_neg (by omega)]
  rw [if_neg (by omega)]
  rw [if_neg (by omega)]
  rw [if_neg (by omega)]
  rw [if_neg (by omega)]
  rw [if_neg (by omega)]
  rw [if_neg (by omega)]
  rw [if_neg (by omega)]
  rw [if_pos h]
theorem shk_30 {nm fl : ByteArray → Prop} {F : Nat → Gv} {a : Fv} {p : Nat} {A : Nat → ByteArray} {q : Nat} {K : Nat → Int} (h : a.k = 30) : shk nm fl F a p A q K = (q = 1 ∧ ex F K 0 1 ∧ br a p true false false false ∧ 19 ≤ a.o ∧ a.o ≤ 22) := by
  unfold shk
  rw [if_neg (by omega)]
  rw [if_neg (by omega)]
  rw [if_neg (by omega)]
  rw [if_neg (by omega)]
  rw [if_neg (by omega)]
  rw [if_neg (by omega)]
  rw [if_neg (by omega)]
  rw [if_neg (by omega)]
  rw [if_neg (by omega)]
  rw [if_neg (by omega)]
  rw [if_neg (by omega)]
  rw [if_neg (by omega)]
  rw [if_neg (by omega)]
  rw [if_neg (by omega)]
  rw [if_neg (by omega)]
  rw [if_neg (by omega)]
  rw [if_neg (by omega)]
  rw [if_neg (by omega)]
  rw [if_neg (by omega)]
  rw [if_neg (by omega)]
  rw [if_neg (by omega)]
  rw [if_neg (by omega)]
  rw [if_neg (by omega)]
  rw [if_neg (by omega)]
  rw [if_neg (by omega)]
  rw [if_neg (by omega)]
  rw [if_pos h]
theorem shk_31 {nm fl : ByteArray → Prop} {F : Nat → Gv} {a : Fv} {p : Nat} {A : Nat → ByteArray} {q : Nat} {K : Nat → Int} (h : a.k = 31) : shk nm fl F a p A q K = (q = 2 ∧ ex F K 0 2 ∧ br a p true false false false ∧ 1 ≤ a.o ∧ a.o ≤ 18) := by
  unfold shk
  rw [if_neg (by omega)]
  rw [if_neg (by omega)]
  rw [if_neg (by omega)]
  rw [if_neg (by omega)]
  rw [if_neg (by omega)]
  rw [if_neg (by omega)]
  rw [if_neg (by omega)]
  rw [if_neg (by omega)]
  rw [if_neg (by omega)]
  rw [if_neg (by omega)]
  rw [if_neg (by omega)]
  rw [if_neg (by omega)]
  rw [if_neg (by omega)]
  rw [if_neg (by omega)]
  rw [if_neg (by omega)]
  rw [if_neg (by omega)]
  rw [if_neg (by omega)]
  rw [if_neg (by omega)]
  rw [if_neg (by omega)]
  rw [if_neg (by omega)]
  rw [if_neg (by omega)]
  rw [if_neg (by omega)]
  rw [if_neg (by omega)]
  rw [if_neg (by omega)]
  rw [if_neg (by omega)]
  rw [if_neg (by omega)]
  rw [if_neg (by omega)]
  rw [if_pos h]
theorem shk_32 {nm fl : ByteArray → Prop} {F : Nat → Gv} {a : Fv} {p : Nat} {A : Nat → ByteArray} {q : Nat} {K : Nat → Int} (h : a.k = 32) : shk nm fl F a p A q K = (q = 2 ∧ ex F K 0 2 ∧ kdk F K 0 ≠ 27 ∧ br a p false false false false) := by
  unfold shk
  rw [if_neg (by omega)]
  rw [if_neg (by omega)]
  rw [if_neg (by omega)]
  rw [if_neg (by omega)]
  rw [if_neg (by omega)]
  rw [if_neg (by omega)]
  rw [if_neg (by omega)]
  rw [if_neg (by omega)]
  rw [if_neg (by omega)]
  rw [if_neg (by omega)]
  rw [if_neg (by omega)]
  rw [if_neg (by omega)]
  rw [if_neg (by omega)]
  rw [if_neg (by omega)]
  rw [if_neg (by omega)]
  rw [if_neg (by omega)]
  rw [if_neg (by omega)]
  rw [if_neg (by omega)]
  rw [if_neg (by omega)]
  rw [if_neg (by omega)]
  rw [if_neg (by omega)]
  rw [if_neg (by omega)]
  rw [if_neg (by omega)]
  rw [if_neg (by omega)]
  rw [if_neg (by omega)]
  rw [if_neg (by omega)]
  rw [if_neg (by omega)]
  rw [if_neg (by omega)]
  rw [if_pos h]
theorem shk_33 {nm fl : ByteArray → Prop} {F : Nat → Gv} {a : Fv} {p : Nat} {A : Nat → ByteArray} {q : Nat} {K : Nat → Int} (h : a.k = 33) : shk nm fl F a p A q K = (q = 1 ∧ ex F K 0 1 ∧ kdk F K 0 ≠ 27 ∧ br a p false false true false ∧ nm a.x) := by
  unfold shk
  rw [if_neg (by omega)]
  rw [if_neg (by omega)]
  rw [if_neg (by omega)]
  rw [if_neg (by omega)]
  rw [if_neg (by omega)]
  rw [if_neg (by omega)]
  rw [if_neg (by omega)]
  rw [if_neg (by omega)]
  rw [if_neg (by omega)]
  rw [if_neg (by omega)]
  rw [if_neg (by omega)]
  rw [if_neg (by omega)]
  rw [if_neg (by omega)]
  rw [if_neg (by omega)]
  rw [if_neg (by omega)]
  rw [if_neg (by omega)]
  rw [if_neg (by omega)]
  rw [if_neg (by omega)]
  rw [if_neg (by omega)]
  rw [if_neg (by omega)]
  rw [if_neg (by omega)]
  rw [if_neg (by omega)]
  rw [if_neg (by omega)]
  rw [if_neg (by omega)]
  rw [if_neg (by omega)]
  rw [if_neg (by omega)]
  rw [if_neg (by omega)]
  rw [if_neg (by omega)]
  rw [if_neg (by omega)]
  rw [if_pos h]
theorem shk_34 {nm fl : ByteArray → Prop} {F : Nat → Gv} {a : Fv} {p : Nat} {A : Nat → ByteArray} {q : Nat} {K : Nat → Int} (h : a.k = 34) : shk nm fl F a p A q K = (1 ≤ q ∧ ex F K 0 q ∧ kdk F K 0 ≠ 27 ∧ br a p false false false false) := by
  unfold shk
  rw [if_neg (by omega)]
  rw [if_neg (by omega)]
  rw [if_neg (by omega)]
  rw [if_neg (by omega)]
  rw [if_neg (by omega)]
  rw [if_neg (by omega)]
  rw [if_neg (by omega)]
  rw [if_neg (by omega)]
  rw [if_neg (by omega)]
  rw [if_neg (by omega)]
  rw [if_neg (by omega)]
  rw [if_neg (by omega)]
  rw [if_neg (by omega)]
  rw [if_neg (by omega)]
  rw [if_neg (by omega)]
  rw [if_neg (by omega)]
  rw [if_neg (by omega)]
  rw [if_neg (by omega)]
  rw [if_neg (by omega)]
  rw [if_neg (by omega)]
  rw [if_neg (by omega)]
  rw [if_neg (by omega)]
  rw [if_neg (by omega)]
  rw [if_neg (by omega)]
  rw [if_neg (by omega)]
  rw [if_neg (by omega)]
  rw [if_neg (by omega)]
  rw [if_neg (by omega)]
  rw [if_neg (by omega)]
  rw [if_neg (by omega)]
  rw [if_pos h]
theorem shk_35 {nm fl : ByteArray → Prop} {F : Nat → Gv} {a : Fv} {p : Nat} {A : Nat → ByteArray} {q : Nat} {K : Nat → Int} (h : a.k = 35) : shk nm fl F a p A q K = ((∀ j, j < q → 40 ≤ kdk F K j ∧ kdk F K j ≤ 42) ∧ br a p false false false false) := by
  unfold shk
  rw [if_neg (by omega)]
  rw [if_neg (by omega)]
  rw [if_neg (by omega)]
  rw [if_neg (by omega)]
  rw [if_neg (by omega)]
  rw [if_neg (by omega)]
  rw [if_neg (by omega)]
  rw [if_neg (by omega)]
  rw [if_neg (by omega)]
  rw [if_neg (by omega)]
  rw [if_neg (by omega)]
  rw [if_neg (by omega)]
  rw [if_neg (by omega)]
  rw [if_neg (by omega)]
  rw [if_neg (by omega)]
  rw [if_neg (by omega)]
  rw [if_neg (by omega)]
  rw [if_neg (by omega)]
  rw [if_neg (by omega)]
  rw [if_neg (by omega)]
  rw [if_neg (by omega)]
  rw [if_neg (by omega)]
  rw [if_neg (by omega)]
  rw [if_neg (by omega)]
  rw [if_neg (by omega)]
  rw [if_neg (by omega)]
  rw [if_neg (by omega)]
  rw [if_neg (by omega)]
  rw [if_neg (by omega)]
  rw [if_neg (by omega)]
  rw [if_neg (by omega)]
  rw [if_pos h]
theorem shk_36 {nm fl : ByteArray → Prop} {F : Nat → Gv} {a : Fv} {p : Nat} {A : Nat → ByteArray} {q : Nat} {K : Nat → Int} (h : a.k = 36) : shk nm fl F a p A q K = (q = 1 ∧ kdk F K 0 = 1 ∧ br a p true false false true ∧ nd nm p A 0 200 ∧ (a.o = 0 ∨ a.o = 1)) := by
  unfold shk
  rw [if_neg (by omega)]
  rw [if_neg (by omega)]
  rw [if_neg (by omega)]
  rw [if_neg (by omega)]
  rw [if_neg (by omega)]
  rw [if_neg (by omega)]
  rw [if_neg (by omega)]
  rw [if_neg (by omega)]
  rw [if_neg (by omega)]
  rw [if_neg (by omega)]
  rw [if_neg (by omega)]
  rw [if_neg (by omega)]
  rw [if_neg (by omega)]
  rw [if_neg (by omega)]
  rw [if_neg (by omega)]
  rw [if_neg (by omega)]
  rw [if_neg (by omega)]
  rw [if_neg (by omega)]
  rw [if_neg (by omega)]
  rw [if_neg (by omega)]
  rw [if_neg (by omega)]
  rw [if_neg (by omega)]
  rw [if_neg (by omega)]
  rw [if_neg (by omega)]
  rw [if_neg (by omega)]
  rw [if_neg (by omega)]
  rw [if_neg (by omega)]
  rw [if_neg (by omega)]
  rw [if_neg (by omega)]
  rw [if_neg (by omega)]
  rw [if_neg (by omega)]
  rw [if_neg (by omega)]
  rw [if_pos h]
theorem shk_37 {nm fl : ByteArray → Prop} {F : Nat → Gv} {a : Fv} {p : Nat} {A : Nat → ByteArray} {q : Nat} {K : Nat → Int} (h : a.k = 37) : shk nm fl F a p A q K = (q = 1 ∧ (kdk F K 0 = 34 ∨ kdk F K 0 = 27) ∧ br a p false false false false) := by
  unfold shk
  rw [if_neg (by omega)]
  rw [if_neg (by omega)]
  rw [if_neg (by omega)]
  rw [if_neg (by omega)]
  rw [if_neg (by omega)]
  rw [if_neg (by omega)]
  rw [if_neg (by omega)]
  rw [if_neg (by omega)]
  rw [if_neg (by omega)]
  rw [if_neg (by omega)]
  rw [if_neg (by omega)]
  rw [if_neg (by omega)]
  rw [if_neg (by omega)]
  rw [if_neg (by omega)]
  rw [if_neg (by omega)]
  rw [if_neg (by omega)]
  rw [if_neg (by omega)]
  rw [if_neg (by omega)]
  rw [if_neg (by omega)]
  rw [if_neg (by omega)]
  rw [if_neg (by omega)]
  rw [if_neg (by omega)]
  rw [if_neg (by omega)]
  rw [if_neg (by omega)]
  rw [if_neg (by omega)]
  rw [if_neg (by omega)]
  rw [if_neg (by omega)]
  rw [if_neg (by omega)]
  rw [if_neg (by omega)]
  rw [if_neg (by omega)]
  rw [if_neg (by omega)]
  rw [if_neg (by omega)]
  rw [if_neg (by omega)]
  rw [if_pos h]
theorem shk_40 {nm fl : ByteArray → Prop} {F : Nat → Gv} {a : Fv} {p : Nat} {A : Nat → ByteArray} {q : Nat} {K : Nat → Int} (h : a.k = 40) : shk nm fl F a p A q K = (q = 1 ∧ ex F K 0 1 ∧ br a p false false false false) := by
  unfold shk
  rw [if_neg (by omega)]
  rw [if_neg (by omega)]
  rw [if_neg (by omega)]
  rw [if_neg (by omega)]
  rw [if_neg (by omega)]
  rw [if_neg (by omega)]
  rw [if_neg (by omega)]
  rw [if_neg (by omega)]
  rw [if_neg (by omega)]
  rw [if_neg (by omega)]
  rw [if_neg (by omega)]
  rw [if_neg (by omega)]
  rw [if_neg (by omega)]
  rw [if_neg (by omega)]
  rw [if_neg (by omega)]
  rw [if_neg (by omega)]
  rw [if_neg (by omega)]
  rw [if_neg (by omega)]
  rw [if_neg (by omega)]
  rw [if_neg (by omega)]
  rw [if_neg (by omega)]
  rw [if_neg (by omega)]
  rw [if_neg (by omega)]
  rw [if_neg (by omega)]
  rw [if_neg (by omega)]
  rw [if_neg (by omega)]
  rw [if_neg (by omega)]
  rw [if_neg (by omega)]
  rw [if_neg (by omega)]
  rw [if_neg (by omega)]
  rw [if_neg (by omega)]
  rw [if_neg (by omega)]
  rw [if_neg (by omega)]
  rw [if_neg (by omega)]
  rw [if_pos h]
theorem shk_41 {nm fl : ByteArray → Prop} {F : Nat → Gv} {a : Fv} {p : Nat} {A : Nat → ByteArray} {q : Nat} {K : Nat → Int} (h : a.k = 41) : shk nm fl F a p A q K = (q = 2 ∧ ex F K 0 2 ∧ br a p false false false false) := by
  unfold shk
  rw [if_neg (by omega)]
  rw [if_neg (by omega)]
  rw [if_neg (by omega)]
  rw [if_neg (by omega)]
  rw [if_neg (by omega)]
  rw [if_neg (by omega)]
  rw [if_neg (by omega)]
  rw [if_neg (by omega)]
  rw [if_neg (by omega)]
  rw [if_neg (by omega)]
  rw [if_neg (by omega)]
  rw [if_neg (by omega)]
  rw [if_neg (by omega)]
  rw [if_neg (by omega)]
  rw [if_neg (by omega)]
  rw [if_neg (by omega)]
  rw [if_neg (by omega)]
  rw [if_neg (by omega)]
  rw [if_neg (by omega)]
  rw [if_neg (by omega)]
  rw [if_neg (by omega)]
  rw [if_neg (by omega)]
  rw [if_neg (by omega)]
  rw [if_neg (by omega)]
  rw [if_neg (by omega)]
  rw [if_neg (by omega)]
  rw [if_neg (by omega)]
  rw [if_neg (by omega)]
  rw [if_neg (by omega)]
  rw [if_neg (by omega)]
  rw [if_neg (by omega)]
  rw [if_neg (by omega)]
  rw [if_neg (by omega)]
  rw [if_neg (by omega)]
  rw [if_neg (by omega)]
  rw [if_pos h]
theorem shk_42 {nm fl : ByteArray → Prop} {F : Nat → Gv} {a : Fv} {p : Nat} {A : Nat → ByteArray} {q : Nat} {K : Nat → Int} (h : a.k = 42) : shk nm fl F a p A q K = (q = 1 ∧ ex F K 0 1 ∧ br a p false false true false ∧ nm a.x) := by
  unfold shk
  rw [if_neg (by omega)]
  rw [if_neg (by omega)]
  rw [if_neg (by omega)]
  rw [if_neg (by omega)]
  rw [if_neg (by omega)]
  rw [if_neg (by omega)]
  rw [if_neg (by omega)]
  rw [if_neg (by omega)]
  rw [if_neg (by omega)]
  rw [if_neg (by omega)]
  rw [if_neg (by omega)]
  rw [if_neg (by omega)]
  rw [if_neg (by omega)]
  rw [if_neg (by omega)]
  rw [if_neg (by omega)]
  rw [if_neg (by omega)]
  rw [if_neg (by omega)]
  rw [if_neg (by omega)]
  rw [if_neg (by omega)]
  rw [if_neg (by omega)]
  rw [if_neg (by omega)]
  rw [if_neg (by omega)]
  rw [if_neg (by omega)]
  rw [if_neg (by omega)]
  rw [if_neg (by omega)]
  rw [if_neg (by omega)]
  rw [if_neg (by omega)]
  rw [if_neg (by omega)]
  rw [if_neg (by omega)]
  rw [if_neg (by omega)]
  rw [if_neg (by omega)]
  rw [if_neg (by omega)]
  rw [if_neg (by omega)]
  rw [if_neg (by omega)]
  rw [if_neg (by omega)]
  rw [if_neg (by omega)]
  rw [if_pos h]
theorem sp_st {nm : ByteArray → Prop} (fl : ByteArray → Prop) {w : World} {v : Value} {n : Nat} {F : Nat → Gv} {vn vk : Value} {p : Nat} {A : Nat → ByteArray} {q : Nat} {K : Nat → Int} (s : Sx nm w v n F vn vk p A q K) (a : Fv) (h : 1 ≤ a.k ∧ a.k ≤ 16) :
    Calls Tryz.prog 78 #[.agg #[v], fmv a vn vk] w fun e w' => e = .returned (.bool (dc (shk nm fl F a p A q K))) ∧ Below w.heap.size w w' := by
  have hc : a.k = 1 ∨ a.k = 2 ∨ a.k = 3 ∨ a.k = 4 ∨ a.k = 5 ∨ a.k = 6 ∨ a.k = 7 ∨ a.k = 8 ∨ a.k = 9 ∨ a.k = 10 ∨ a.k = 11 ∨ a.k = 12 ∨ a.k = 13 ∨ a.k = 14 ∨ a.k = 15 ∨ a.k = 16 := by omega
  rcases hc with h | h | h | h | h | h | h | h | h | h | h | h | h | h | h | h
  · rw [shk_1 h]; exact st_1 s a h
  · rw [shk_2 h]; exact st_2 s a h
  · rw [shk_3 h]; exact st_3 s a h
  · rw [shk_4 h]; exact st_4 s a h
  · rw [shk_5 h]; exact st_5 s a h
  · rw [shk_6 h]; exact st_6 s a h
  · rw [shk_7 h]; exact st_7 s a h
  · rw [shk_8 h]; exact st_8 s a h
  · rw [shk_9 h]; exact st_9 s a h
  · rw [shk_10 h]; exact st_10 s a h
  · rw [shk_11 h]; exact st_11 s a h
  · rw [shk_12 h]; exact st_12 s a h
  · rw [shk_13 h]; exact st_13 s a h
  · rw [shk_14 h]; exact st_14 s a h
  · rw [shk_15 h]; exact st_15 s a h
  · rw [shk_16 h]; exact st_16 s a h
set_option maxRecDepth 100000 in
set_option maxHeartbeats 4000000 in
theorem xp_other {w : World} {v : Value} {n : Nat} {F : Nat → Gv} {vn vk : Value} {p : Nat} {A : Nat → ByteArray} {q : Nat} {K : Nat → Int} {nm : ByteArray → Prop} (s : Sx nm w v n F vn vk p A q K) (a : Fv) (h : ¬ (20 ≤ a.k ∧ a.k ≤ 37)) (h2 : ¬ (40 ≤ a.k ∧ a.k ≤ 42)) :
    Calls Tryz.prog 79 #[.agg #[v], fmv a vn vk] w fun e w' => e = .returned (.bool false) ∧ Below w.heap.size w w' := by
  obtain ⟨pn, cn, rfl, _⟩ := s.rn
  obtain ⟨pk, ck, rfl, _⟩ := s.rk
  obtain ⟨pf, cf, rfl, _⟩ := s.rf
  have hqI : (q : Int) ≤ 1048576 := by have := s.hq; omega
  clear s
  obtain ⟨k, f, t, l, o, m, x⟩ := a
  dsimp only at h h2
  have e20 : (k == 20) = false := bne (by omega)
  have e21 : (k == 21) = false := bne (by omega)
  have e22 : (k == 22) = false := bne (by omega)
  have e23 : (k == 23) = false := bne (by omega)
  have e24 : (k == 24) = false := bne (by omega)
  have e25 : (k == 25) = false := bne (by omega)
  have e26 : (k == 26) = false := bne (by omega)
  have e27 : (k == 27) = false := bne (by omega)
  have e28 : (k == 28) = false := bne (by omega)
  have e29 : (k == 29) = false := bne (by omega)
  have e30 : (k == 30) = false := bne (by omega)
  have e31 : (k == 31) = false := bne (by omega)
  have e32 : (k == 32) = false := bne (by omega)
  have e33 : (k == 33) = false := bne (by omega)
  have e34 : (k == 34) = false := bne (by omega)
  have e35 : (k == 35) = false := bne (by omega)
  have e36 : (k == 36) = false := bne (by omega)
  have e37 : (k == 37) = false := bne (by omega)
  have e40 : (k == 40) = false := bne (by omega)
  have e41 : (k == 41) = false := bne (by omega)
  have e42 : (k == 42) = false := bne (by omega)
  clear h h2
  unfold fmv
  dsimp only
  go_enter Tryz.func79, Tryz.ntmps79
  go_wp2_with fail
  go_ret
  exact ⟨rfl, bel2 _ _ _⟩
theorem sp_xp {nm fl : ByteArray → Prop} (HFL : FlS fl) {w : World} {v : Value} {n : Nat} {F : Nat → Gv} {vn vk : Value} {p : Nat} {A : Nat → ByteArray} {q : Nat} {K : Nat → Int} (s : Sx nm w v n F vn vk p A q K) (a : Fv) (h : ¬ (1 ≤ a.k ∧ a.k ≤ 16)) :
    Calls Tryz.prog 79 #[.agg #[v], fmv a vn vk] w fun e w' => e = .returned (.bool (dc (shk nm fl F a p A q K))) ∧ Below w.heap.size w w' := by
  by_cases h1 : 20 ≤ a.k ∧ a.k ≤ 37
  · have hc : a.k = 20 ∨ a.k = 21 ∨ a.k = 22 ∨ a.k = 23 ∨ a.k = 24 ∨ a.k = 25 ∨ a.k = 26 ∨ a.k = 27 ∨ a.k = 28 ∨ a.k = 29 ∨ a.k = 30 ∨ a.k = 31 ∨ a.k = 32 ∨ a.k = 33 ∨ a.k = 34 ∨ a.k = 35 ∨ a.k = 36 ∨ a.k = 37 := by omega
    rcases hc with h | h | h | h | h | h | h | h | h | h | h | h | h | h | h | h | h | h
    · rw [shk_20 (by assumption)]; exact xp_20 s a (by assumption)
    · rw [shk_21 (by assumption)]; exact xp_21 s a (by assumption)
    · rw [shk_22 (by assumption)]; exact xp_22 s a (by assumption)
    · rw [shk_23 (by assumption)]; exact xp_23 s a (by assumption)
    · rw [shk_24 (by assumption)]; exact xp_24 HFL s a (by assumption)
    · rw [shk_25 (by assumption)]; exact xp_25 s a (by assumption)
    · rw [shk_26 (by assumption)]; exact xp_26 s a (by assumption)
    · rw [shk_27 (by assumption)]; exact xp_27 s a (by assumption)
    · rw [shk_28 (by assumption)]; exact xp_28 s a (by assumption)
    · rw [shk_29 (by assumption)]; exact xp_29 s a (by assumption)
    · rw [shk_30 (by assumption)]; exact xp_30 s a (by assumption)
    · rw [shk_31 (by assumption)]; exact xp_31 s a (by assumption)
    · rw [shk_32 (by assumption)]; exact xp_32 s a (by assumption)
    · rw [shk_33 (by assumption)]; exact xp_33 s a (by assumption)
    · rw [shk_34 (by assumption)]; exact xp_34 s a (by assumption)
    · rw [shk_35 (by assumption)]; exact xp_35 s a (by assumption)
    · rw [shk_36 (by assumption)]; exact xp_36 s a (by assumption)
    · rw [shk_37 (by assumption)]; exact xp_37 s a (by assumption)
  · by_cases h2 : 40 ≤ a.k ∧ a.k ≤ 42
    · have hc : a.k = 40 ∨ a.k = 41 ∨ a.k = 42 := by omega
      rcases hc with h | h | h
      · rw [shk_40 (by assumption)]; exact xp_40 s a (by assumption)
      · rw [shk_41 (by assumption)]; exact xp_41 s a (by assumption)
      · rw [shk_42 (by assumption)]; exact xp_42 s a (by assumption)
    · have hf : ¬ shk nm fl F a p A q K := by
        unfold shk
        rw [if_neg (by omega)]
        rw [if_neg (by omega)]
        rw [if_neg (by omega)]
        rw [if_neg (by omega)]
        rw [if_neg (by omega)]
        rw [if_neg (by omega)]
        rw [if_neg (by omega)]
        rw [if_neg (by omega)]
        rw [if_neg (by omega)]
        rw [if_neg (by omega)]
        rw [if_neg (by omega)]
        rw [if_neg (by omega)]
        rw [if_neg (by omega)]
        rw [if_neg (by omega)]
        rw [if_neg (by omega)]
        rw [if_neg (by omega)]
        rw [if_neg (by omega)]
        rw [if_neg (by omega)]
        rw [if_neg (by omega)]
        rw [if_neg (by omega)]
        rw [if_neg (by omega)]
        rw [if_neg (by omega)]
        rw [if_neg (by omega)]
        rw [if_neg (by omega)]
        rw [if_neg (by omega)]
        rw [if_neg (by omega)]
        rw [if_neg (by omega)]
        rw [if_neg (by omega)]
        rw [if_neg (by omega)]
        rw [if_neg (by omega)]
        rw [if_neg (by omega)]
        rw [if_neg (by omega)]
        rw [if_neg (by omega)]
        rw [if_neg (by omega)]
        rw [if_neg (by omega)]
        rw [if_neg (by omega)]
        rw [if_neg (by omega)]
        exact fun f => f
      rw [dc_f hf]
      exact xp_other s a h1 h2
end Go.Proofs.YtjggnnmnegcpjaaGreatDoor.Fo
namespace Go.Proofs.YtjggnnmnegcpjaaGreatDoor.Fo
open Go.ChangeShapes Go.WideShapes Go.ChangeAt Go.RowKit
set_option linter.unusedVariables false
/-- what the model asks of form i -/
def ndk (nm fl : ByteArray → Prop) (F : Nat → Gv) (i : Nat) : Prop :=
  0 ≤ (F i).a.f ∧ (F i).a.f ≤ (F i).a.t ∧ 0 ≤ (F i).a.l ∧ (F i).q ≤ 200 ∧ (∀ j, j < (F i).q → 0 ≤ (F i).K j ∧ (F i).K j < (i : Int)) ∧ shk nm fl F (F i).a (F i).p (F i).A (F i).q (F i).K
set_option maxRecDepth 100000 in
set_option maxHeartbeats 8000000 in
theorem sp_node {nm fl : ByteArray → Prop} (HN : NmS nm) (HFL : FlS fl) {v : Value} {n : Nat} {F : Nat → Gv} (w : World) (hf : RowF w v n F) (i : Nat) (hi : i < n) (hn : n ≤ 1048576) (hp : (F i).p ≤ 1048576) (hq : (F i).q ≤ 1048576) :
    Calls Tryz.prog 42 #[.agg #[v], .int .i64 (i : Int)] w fun e w' => e = .returned (.bool (dc (ndk nm fl F i))) ∧ Below w.heap.size w w' := by
  obtain ⟨pf, cf, rfl, hf2⟩ := hf
  have hf3 : RowF w (.slice pf n cf) n F := ⟨pf, cf, rfl, hf2⟩
  obtain ⟨c, rfl, hcc, hrc⟩ := hf2 (by omega)
  obtain ⟨vn, vk, hc, hrn, hrk⟩ := hrc i hi
  obtain ⟨pn, cn, rfl, hn2⟩ := hrn
  obtain ⟨pk, ck, rfl, hk2⟩ := hrk
  have hrn : RowV w (.slice pn (F i).p cn) (F i).p (fun j => .string ((F i).A j)) := ⟨pn, cn, rfl, hn2⟩
  have hrk : RowV w (.slice pk (F i).q ck) (F i).q (fun j => .int .i64 ((F i).K j)) := ⟨pk, ck, rfl, hk2⟩
  have hc' := fun o : Obj => hc.below (bel1 w o)
  obtain ⟨W2, hW2⟩ : ∃ W2, W2 = (w.alloc (.cells #[.slice (some c) n cf] 31)).alloc (.cells #[.int .i64 (F i).a.k, .int .i64 (F i).a.f, .int .i64 (F i).a.t, .int .i64 (F i).a.l, .int .i64 (F i).a.o, .int .i64 (F i).a.m, .string (F i).a.x, .slice pn (F i).p cn, .slice pk (F i).q ck] 58) := ⟨_, rfl⟩
  have hb2 : Below w.heap.size w W2 := by rw [hW2]; exact bel2 _ _ _
  have hbx : Bx W2 (w.heap.size + 1) (F i).a (.slice pn (F i).p cn) (.slice pk (F i).q ck) := by
    rw [hW2]
    have := Bx.new (w.alloc (.cells #[.slice (some c) n cf] 31)) (F i).a (.slice pn (F i).p cn) (.slice pk (F i).q ck) 58
    simpa using this
  have hct : W2.cell? ⟨w.heap.size, 0, none⟩ = some (.slice (some c) n cf) := by
    rw [hW2, World.cell?_alloc_past _ _ _ (by simp), World.cell?_alloc_at _ _ _ _ rfl]; rfl
  have HSX : Hid ((∀ j, j < (F i).q → 0 ≤ (F i).K j ∧ (F i).K j < (n : Int)) → Sx nm W2 (.slice (some c) n cf) n F (.slice pn (F i).p cn) (.slice pk (F i).q ck) (F i).p (F i).A (F i).q (F i).K) := (fun h => ⟨HN, hf3.below hb2, hrn.below hb2, hrk.below hb2, hp, hq, hn, h⟩ : _ → _)
  have HB2 : Hid (Below w.heap.size w W2) := hb2
  have HKC : Hid (∀ j, j < (F i).q → ∃ b : Addr, pk = some b ∧ (F i).q ≤ ck ∧ W2.cell? (b.add j) = some (.int .i64 ((F i).K j))) := (fun j hj => by
    obtain ⟨b, rfl, h1, h2⟩ := hk2 (by omega)
    exact ⟨b, rfl, h1, (hb2.cell (lt_of_cell' (h2 j hj))).trans (h2 j hj)⟩ : ∀ j, _)
  have HFLS : Hid (FlS fl) := HFL
  obtain ⟨R, hR⟩ : ∃ R, R = dc (ndk nm fl F i) := ⟨_, rfl⟩
  have HR : Hid (R = dc (ndk nm fl F i)) := hR
  rw [← hR]
  have hiI : (i : Int) < (n : Int) := by omega
  have hnI : (n : Int) ≤ 1048576 := by omega
  have hqI : ((F i).q : Int) ≤ 1048576 := by omega
  have HIN : Hid (i < n) := hi
  obtain ⟨d0, d1, d2, d3, d4, d5, d6, d7, d8⟩ := hc'  (.cells #[.slice (some c) n cf] 31)
  clear hR hb2 hc hc' hrc hf2 hf3 hrn hrk hn2 hk2 HN HFL hp hq hi hn
  go_enter Tryz.func42, Tryz.ntmps42
  have OUT : Hid (∀ g : ndk nm fl F i → False, R = false) := (fun g => (show R = _ from HR).trans (dc_f g) : ∀ g : ndk nm fl F i → False, R = false)
  rcases Int.lt_or_le (F i).a.f 0 with h1 | h1
  · have HX : Hid (R = false) := OUT (fun g => by have := g.1; omega)
    clear hbx hct hW2
    go_wp2_with fail
    go_ret
    exact ⟨by rw [show R = false from HX]; rfl, bel2 _ _ _⟩
  have h1' : ¬ (F i).a.f < 0 := by omega
  rcases Int.lt_or_le (F i).a.t (F i).a.f with h2 | h2
  · have HX : Hid (R = false) := OUT (fun g => by have := g.2.1; omega)
    clear hbx hct hW2
    go_wp2_with fail
    go_ret
    exact ⟨by rw [show R = false from HX]; rfl, bel2 _ _ _⟩
  have h2' : ¬ (F i).a.t < (F i).a.f := by omega
  rcases Int.lt_or_le (F i).a.l 0 with h3 | h3
  · have HX : Hid (R = false) := OUT (fun g => by have := g.2.2.1; omega)
    clear hbx hct hW2
    go_wp2_with fail
    go_ret
    exact ⟨by rw [show R = false from HX]; rfl, bel2 _ _ _⟩
  have h3' : ¬ (F i).a.l < 0 := by omega
  rcases Int.lt_or_le 200 ((F i).q : Int) with h4 | h4
  · have HX : Hid (R = false) := OUT (fun g => by have := g.2.2.2.1; omega)
    clear hbx hct hW2
    go_wp2_with fail
    go_ret
    exact ⟨by rw [show R = false from HX]; rfl, bel2 _ _ _⟩
  have h4' : ¬ 200 < ((F i).q : Int) := by omega
  have HH : Hid (0 ≤ (F i).a.f ∧ (F i).a.f ≤ (F i).a.t ∧ 0 ≤ (F i).a.l ∧ (F i).q ≤ 200) := (⟨h1, h2, h3, by omega⟩ : _ ∧ _ ∧ _ ∧ _)
  go_wp2_with fail
  rw [← hW2]
  clear hW2 d0 d1 d2 d3 d4 d5 d6 d7 d8
  obtain ⟨c0, c1, c2, c3, c4, c5, c6, c7, c8⟩ := hbx
  clear h1 h1' h2 h2' h3 h3' h4 h4'
  go_loopw [37] (fun sr wr => ∃ j : Nat, sr = .int .i64 (j : Int) ∧ j ≤ (F i).q ∧ wr = W2 ∧ Hid (∀ j', j' < j → 0 ≤ (F i).K j' ∧ (F i).K j' < (i : Int))) (fun sr _ => (F i).q - (intOf sr).toNat)
  case atStart => exact ⟨0, rfl, Nat.zero_le _, rfl, (fun j hj => by omega : ∀ j', j' < 0 → _)⟩
  case round =>
    obtain ⟨j, rfl, hj, rfl, HI⟩ := hrel
    have hI := (show ∀ j', j' < j → 0 ≤ (F i).K j' ∧ (F i).K j' < (i : Int) from HI)
    rcases Nat.lt_or_ge j (F i).q with hj2 | hj2
    · have hjI : (j : Int) < ((F i).q : Int) := by omega
      obtain ⟨b, rfl, hcb, q0⟩ := (show ∀ j, j < (F i).q → _ from HKC) j hj2
      rcases Int.lt_or_le ((F i).K j) 0 with g1 | g1
      · have HX : Hid (R = false) := OUT (fun g => by have := (g.2.2.2.2.1 j hj2).1; omega)
        clear hI HI hj c0 c1 c2 c3 c4 c5 c6 c7 c8 hct
        generalize (F i).K j = y at *
        go_wp2_with fail
        go_ret
        exact ⟨by rw [show R = false from HX]; rfl, HB2⟩
      · have g1' : ¬ (F i).K j < 0 := by omega
        rcases Int.lt_or_le ((F i).K j) (i : Int) with g2 | g2
        · have g2' : ¬ (i : Int) ≤ (F i).K j := by omega
          have HX : Hid (∀ j', j' < j + 1 → 0 ≤ (F i).K j' ∧ (F i).K j' < (i : Int)) := (fun j' hj' => by
            by_cases e : j' = j
            · rw [e]; exact ⟨g1, g2⟩
            · exact hI j' (by omega) : ∀ j', _)
          clear hI HI hj c0 c1 c2 c3 c4 c5 c6 c7 c8 hct
          generalize (F i).K j = y at *
          go_wp2_with fail
          go_roundw
          case rel => exact ⟨j + 1, by go_num, by omega, by trivial, HX⟩
          case measure => simp [intOf]; omega
        · have HX : Hid (R = false) := OUT (fun g => by have := (g.2.2.2.2.1 j hj2).2; omega)
          clear hI HI hj c0 c1 c2 c3 c4 c5 c6 c7 c8 hct
          generalize (F i).K j = y at *
          go_wp2_with fail
          go_ret
          exact ⟨by rw [show R = false from HX]; rfl, HB2⟩
    · obtain rfl : j = (F i).q := by omega
      have hsx := (show (∀ j, j < (F i).q → 0 ≤ (F i).K j ∧ (F i).K j < (n : Int)) → _ from HSX) (fun j hj => by have := hI j hj; omega)
      have hst := fun W => sp_stat (F i).a.k W
      have HIK : Hid (∀ j', j' < (F i).q → 0 ≤ (F i).K j' ∧ (F i).K j' < (i : Int)) := hI
      by_cases hk : 1 ≤ (F i).a.k ∧ (F i).a.k ≤ 16
      · rw [dc_t hk] at hst
        have HST : Hid (∀ W, Calls Tryz.prog 77 #[.int .i64 (F i).a.k] W fun e w' => e = .returned (.bool true) ∧ w' = W) := hst
        have HC : Hid (Calls Tryz.prog 78 #[.agg #[.slice (some c) n cf], fmv (F i).a (.slice pn (F i).p cn) (.slice pk (F i).q ck)] wr fun e w' => e = .returned (.bool (dc (shk nm fl F (F i).a (F i).p (F i).A (F i).q (F i).K))) ∧ Below wr.heap.size wr w') := sp_st fl hsx (F i).a hk
        clear hI HI hsx hst hk
        go_wp2_with fail
        refine ((show ∀ W, _ from HST) _).mono ?_
        rintro e w1 ⟨rfl, rfl⟩
        go_wp2_with fail
        refine (show Calls Tryz.prog 78 #[.agg #[.slice (some c) n cf], fmv (F i).a (.slice pn (F i).p cn) (.slice pk (F i).q ck)] w1 fun e w' => e = .returned (.bool (dc (shk nm fl F (F i).a (F i).p (F i).A (F i).q (F i).K))) ∧ Below w1.heap.size w1 w' from HC).mono ?_
        rintro e w2 ⟨rfl, b2⟩
        have HX : Hid (R = dc (shk nm fl F (F i).a (F i).p (F i).A (F i).q (F i).K)) := (show R = _ from HR).trans (dc_iff ⟨fun g => g.2.2.2.2.2, fun g => ⟨HH.1, HH.2.1, HH.2.2.1, HH.2.2.2, HIK, g⟩⟩)
        have HB3 : Hid (Below w.heap.size w w2) := (show Below w.heap.size w w1 from HB2).trans (b2.mono (show Below w.heap.size w w1 from HB2).size)
        clear b2 HC HST
        generalize dc (shk nm fl F (F i).a (F i).p (F i).A (F i).q (F i).K) = z at *
        go_wp2_with fail
        go_ret
        exact ⟨by rw [show R = z from HX]; rfl, HB3⟩
      · rw [dc_f hk] at hst
        have HST : Hid (∀ W, Calls Tryz.prog 77 #[.int .i64 (F i).a.k] W fun e w' => e = .returned (.bool false) ∧ w' = W) := hst
        have HC : Hid (Calls Tryz.prog 79 #[.agg #[.slice (some c) n cf], fmv (F i).a (.slice pn (F i).p cn) (.slice pk (F i).q ck)] wr fun e w' => e = .returned (.bool (dc (shk nm fl F (F i).a (F i).p (F i).A (F i).q (F i).K))) ∧ Below wr.heap.size wr w') := sp_xp HFLS hsx (F i).a hk
        clear hI HI hsx hst hk
        go_wp2_with fail
        refine ((show ∀ W, _ from HST) _).mono ?_
        rintro e w1 ⟨rfl, rfl⟩
        go_wp2_with fail
        refine (show Calls Tryz.prog 79 #[.agg #[.slice (some c) n cf], fmv (F i).a (.slice pn (F i).p cn) (.slice pk (F i).q ck)] w1 fun e w' => e = .returned (.bool (dc (shk nm fl F (F i).a (F i).p (F i).A (F i).q (F i).K))) ∧ Below w1.heap.size w1 w' from HC).mono ?_
        rintro e w2 ⟨rfl, b2⟩
        have HX : Hid (R = dc (shk nm fl F (F i).a (F i).p (F i).A (F i).q (F i).K)) := (show R = _ from HR).trans (dc_iff ⟨fun g => g.2.2.2.2.2, fun g => ⟨HH.1, HH.2.1, HH.2.2.1, HH.2.2.2, HIK, g⟩⟩)
        have HB3 : Hid (Below w.heap.size w w2) := (show Below w.heap.size w w1 from HB2).trans (b2.mono (show Below w.heap.size w w1 from HB2).size)
        clear b2 HC HST
        generalize dc (shk nm fl F (F i).a (F i).p (F i).A (F i).q (F i).K) = z at *
        go_wp2_with fail
        go_ret
        exact ⟨by rw [show R = z from HX]; rfl, HB3⟩
end Go.Proofs.YtjggnnmnegcpjaaGreatDoor.Fo
