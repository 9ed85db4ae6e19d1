import Derived.Test.YtaoagjajjeddcaaEvg
namespace Go.Proofs.Ytaoagjajjeddcaa.Fo
open Go.ChangeShapes Go.WideShapes Go.ChangeAt Go.RowKit
set_option linter.unusedVariables false
set_option maxRecDepth 100000
theorem evp_2 {n m k f l : Int} {x y z : ByteArray} {q : Nat} (hk : (q : Int) ≤ 0) (hs : k = 0 ∧ f = 0 ∧ l = 0 ∧ z.size = 0) : EvP 2 n m x.size y.size q k f l z.size ↔ n = 0 ∧ m = 0 ∧ x.size = 0 ∧ (y.size : Int) ≤ 4000 := by
  have e0 : nhi 2 = 0 := rfl
  have e1 : mlo 2 = 0 := rfl
  have e2 : mhi 2 = 0 := rfl
  have e3 : xlo 2 = 0 := rfl
  have e4 : xhi 2 = 0 := rfl
  have e5 : yhi 2 = 4000 := rfl
  have e6 : khi 2 = 0 := rfl
  constructor
  · rintro ⟨_, g1, g2, g3, g4, g5, g6⟩
    exact ⟨by omega, by omega, by omega, by omega⟩
  · rintro ⟨g0, g1, g2, g3⟩
    exact ⟨by omega, by omega, by omega, by omega, by omega, by omega, fun h => by omega, fun _ => hs⟩
theorem evp_3 {n m k f l : Int} {x y z : ByteArray} {q : Nat} (hk : (q : Int) ≤ 0) (hs : k = 0 ∧ f = 0 ∧ l = 0 ∧ z.size = 0) : EvP 3 n m x.size y.size q k f l z.size ↔ 0 ≤ n ∧ n ≤ 50 ∧ m = 0 ∧ x.size = 0 ∧ y.size = 0 := by
  have e0 : nhi 3 = 50 := rfl
  have e1 : mlo 3 = 0 := rfl
  have e2 : mhi 3 = 0 := rfl
  have e3 : xlo 3 = 0 := rfl
  have e4 : xhi 3 = 0 := rfl
  have e5 : yhi 3 = 0 := rfl
  have e6 : khi 3 = 0 := rfl
  constructor
  · rintro ⟨_, g1, g2, g3, g4, g5, g6⟩
    exact ⟨by omega, by omega, by omega, by omega, by omega⟩
  · rintro ⟨g0, g1, g2, g3, g4⟩
    exact ⟨by omega, by omega, by omega, by omega, by omega, by omega, fun h => by omega, fun _ => hs⟩
theorem evp_4 {n m k f l : Int} {x y z : ByteArray} {q : Nat} (hk : (q : Int) ≤ 0) (hs : k = 0 ∧ f = 0 ∧ l = 0 ∧ z.size = 0) : EvP 4 n m x.size y.size q k f l z.size ↔ n = 0 ∧ m = 0 ∧ (x.size : Int) ≤ 4000 ∧ (y.size : Int) ≤ 4000 := by
  have e0 : nhi 4 = 0 := rfl
  have e1 : mlo 4 = 0 := rfl
  have e2 : mhi 4 = 0 := rfl
  have e3 : xlo 4 = 0 := rfl
  have e4 : xhi 4 = 4000 := rfl
  have e5 : yhi 4 = 4000 := rfl
  have e6 : khi 4 = 0 := rfl
  constructor
  · rintro ⟨_, g1, g2, g3, g4, g5, g6⟩
    exact ⟨by omega, by omega, by omega, by omega⟩
  · rintro ⟨g0, g1, g2, g3⟩
    exact ⟨by omega, by omega, by omega, by omega, by omega, by omega, fun h => by omega, fun _ => hs⟩
theorem evp_5 {n m k f l : Int} {x y z : ByteArray} {q : Nat} (hk : (q : Int) ≤ 0) (hs : k = 0 ∧ f = 0 ∧ l = 0 ∧ z.size = 0) : EvP 5 n m x.size y.size q k f l z.size ↔ 0 ≤ n ∧ n ≤ 1000 ∧ m = 0 ∧ x.size = 0 ∧ y.size = 0 := by
  have e0 : nhi 5 = 1000 := rfl
  have e1 : mlo 5 = 0 := rfl
  have e2 : mhi 5 = 0 := rfl
  have e3 : xlo 5 = 0 := rfl
  have e4 : xhi 5 = 0 := rfl
  have e5 : yhi 5 = 0 := rfl
  have e6 : khi 5 = 0 := rfl
  constructor
  · rintro ⟨_, g1, g2, g3, g4, g5, g6⟩
    exact ⟨by omega, by omega, by omega, by omega, by omega⟩
  · rintro ⟨g0, g1, g2, g3, g4⟩
    exact ⟨by omega, by omega, by omega, by omega, by omega, by omega, fun h => by omega, fun _ => hs⟩
theorem evp_6 {n m k f l : Int} {x y z : ByteArray} {q : Nat} (hk : (q : Int) ≤ 0) : EvP 6 n m x.size y.size q k f l z.size ↔ n = 0 ∧ m = 0 ∧ x.size = 0 ∧ y.size = 0 ∧ StP k f l z.size := by
  have e0 : nhi 6 = 0 := rfl
  have e1 : mlo 6 = 0 := rfl
  have e2 : mhi 6 = 0 := rfl
  have e3 : xlo 6 = 0 := rfl
  have e4 : xhi 6 = 0 := rfl
  have e5 : yhi 6 = 0 := rfl
  have e6 : khi 6 = 0 := rfl
  constructor
  · rintro ⟨_, g1, g2, g3, g4, g5, g6⟩
    exact ⟨by omega, by omega, by omega, by omega, g6.1 rfl⟩
  · rintro ⟨g1, g2, g3, g4, g5⟩
    exact ⟨by omega, by omega, by omega, by omega, by omega, by omega, fun _ => g5, fun h => absurd rfl h⟩
theorem evp_7 {n m k f l : Int} {x y z : ByteArray} {q : Nat} (hk : (q : Int) ≤ 0) (hs : k = 0 ∧ f = 0 ∧ l = 0 ∧ z.size = 0) : EvP 7 n m x.size y.size q k f l z.size ↔ 0 ≤ n ∧ n < 20 ∧ m = 0 ∧ x.size = 0 ∧ y.size = 0 := by
  have e0 : nhi 7 = 19 := rfl
  have e1 : mlo 7 = 0 := rfl
  have e2 : mhi 7 = 0 := rfl
  have e3 : xlo 7 = 0 := rfl
  have e4 : xhi 7 = 0 := rfl
  have e5 : yhi 7 = 0 := rfl
  have e6 : khi 7 = 0 := rfl
  constructor
  · rintro ⟨_, g1, g2, g3, g4, g5, g6⟩
    exact ⟨by omega, by omega, by omega, by omega, by omega⟩
  · rintro ⟨g0, g1, g2, g3, g4⟩
    exact ⟨by omega, by omega, by omega, by omega, by omega, by omega, fun h => by omega, fun _ => hs⟩
theorem evp_12 {n m k f l : Int} {x y z : ByteArray} {q : Nat} (hk : (q : Int) ≤ 0) (hs : k = 0 ∧ f = 0 ∧ l = 0 ∧ z.size = 0) : EvP 12 n m x.size y.size q k f l z.size ↔ 0 ≤ n ∧ n < 100 ∧ m = 0 ∧ x.size = 0 ∧ y.size = 0 := by
  have e0 : nhi 12 = 99 := rfl
  have e1 : mlo 12 = 0 := rfl
  have e2 : mhi 12 = 0 := rfl
  have e3 : xlo 12 = 0 := rfl
  have e4 : xhi 12 = 0 := rfl
  have e5 : yhi 12 = 0 := rfl
  have e6 : khi 12 = 0 := rfl
  constructor
  · rintro ⟨_, g1, g2, g3, g4, g5, g6⟩
    exact ⟨by omega, by omega, by omega, by omega, by omega⟩
  · rintro ⟨g0, g1, g2, g3, g4⟩
    exact ⟨by omega, by omega, by omega, by omega, by omega, by omega, fun h => by omega, fun _ => hs⟩
theorem evp_14 {n m k f l : Int} {x y z : ByteArray} {q : Nat} (hk : (q : Int) ≤ 0) (hs : k = 0 ∧ f = 0 ∧ l = 0 ∧ z.size = 0) : EvP 14 n m x.size y.size q k f l z.size ↔ n = 0 ∧ m = 0 ∧ (0 : Int) < (x.size : Int) ∧ (x.size : Int) ≤ 40 ∧ y.size = 0 := by
  have e0 : nhi 14 = 0 := rfl
  have e1 : mlo 14 = 0 := rfl
  have e2 : mhi 14 = 0 := rfl
  have e3 : xlo 14 = 1 := rfl
  have e4 : xhi 14 = 40 := rfl
  have e5 : yhi 14 = 0 := rfl
  have e6 : khi 14 = 0 := rfl
  constructor
  · rintro ⟨_, g1, g2, g3, g4, g5, g6⟩
    exact ⟨by omega, by omega, by omega, by omega, by omega⟩
  · rintro ⟨g0, g1, g2, g3, g4⟩
    exact ⟨by omega, by omega, by omega, by omega, by omega, by omega, fun h => by omega, fun _ => hs⟩
theorem evp_15 {n m k f l : Int} {x y z : ByteArray} {q : Nat} (hk : (q : Int) ≤ 0) (hs : k = 0 ∧ f = 0 ∧ l = 0 ∧ z.size = 0) : EvP 15 n m x.size y.size q k f l z.size ↔ 0 ≤ n ∧ n < 20 ∧ m = 0 ∧ x.size = 0 ∧ y.size = 0 := by
  have e0 : nhi 15 = 19 := rfl
  have e1 : mlo 15 = 0 := rfl
  have e2 : mhi 15 = 0 := rfl
  have e3 : xlo 15 = 0 := rfl
  have e4 : xhi 15 = 0 := rfl
  have e5 : yhi 15 = 0 := rfl
  have e6 : khi 15 = 0 := rfl
  constructor
  · rintro ⟨_, g1, g2, g3, g4, g5, g6⟩
    exact ⟨by omega, by omega, by omega, by omega, by omega⟩
  · rintro ⟨g0, g1, g2, g3, g4⟩
    exact ⟨by omega, by omega, by omega, by omega, by omega, by omega, fun h => by omega, fun _ => hs⟩
theorem evp_17 {n m k f l : Int} {x y z : ByteArray} {q : Nat} (hk : (q : Int) ≤ 200) (hs : k = 0 ∧ f = 0 ∧ l = 0 ∧ z.size = 0) : EvP 17 n m x.size y.size q k f l z.size ↔ 0 ≤ n ∧ n ≤ 200 ∧ m = 0 ∧ x.size = 0 ∧ y.size = 0 := by
  have e0 : nhi 17 = 200 := rfl
  have e1 : mlo 17 = 0 := rfl
  have e2 : mhi 17 = 0 := rfl
  have e3 : xlo 17 = 0 := rfl
  have e4 : xhi 17 = 0 := rfl
  have e5 : yhi 17 = 0 := rfl
  have e6 : khi 17 = 200 := rfl
  constructor
  · rintro ⟨_, g1, g2, g3, g4, g5, g6⟩
    exact ⟨by omega, by omega, by omega, by omega, by omega⟩
  · rintro ⟨g0, g1, g2, g3, g4⟩
    exact ⟨by omega, by omega, by omega, by omega, by omega, by omega, fun h => by omega, fun _ => hs⟩
theorem evp_19 {n m k f l : Int} {x y z : ByteArray} {q : Nat} (hk : (q : Int) ≤ 0) (hs : k = 0 ∧ f = 0 ∧ l = 0 ∧ z.size = 0) : EvP 19 n m x.size y.size q k f l z.size ↔ 0 ≤ n ∧ n < 16512 ∧ 1 ≤ m ∧ m ≤ 255 ∧ x.size = 0 ∧ y.size = 0 := by
  have e0 : nhi 19 = 16511 := rfl
  have e1 : mlo 19 = 1 := rfl
  have e2 : mhi 19 = 255 := rfl
  have e3 : xlo 19 = 0 := rfl
  have e4 : xhi 19 = 0 := rfl
  have e5 : yhi 19 = 0 := rfl
  have e6 : khi 19 = 0 := rfl
  constructor
  · rintro ⟨_, g1, g2, g3, g4, g5, g6⟩
    exact ⟨by omega, by omega, by omega, by omega, by omega, by omega⟩
  · rintro ⟨g0, g1, g2, g3, g4, g5⟩
    exact ⟨by omega, by omega, by omega, by omega, by omega, by omega, fun h => by omega, fun _ => hs⟩
theorem evp_20 {n m k f l : Int} {x y z : ByteArray} {q : Nat} (hk : (q : Int) ≤ 0) (hs : k = 0 ∧ f = 0 ∧ l = 0 ∧ z.size = 0) : EvP 20 n m x.size y.size q k f l z.size ↔ n = 0 ∧ m = 0 ∧ x.size = 0 ∧ (y.size : Int) ≤ 65536 := by
  have e0 : nhi 20 = 0 := rfl
  have e1 : mlo 20 = 0 := rfl
  have e2 : mhi 20 = 0 := rfl
  have e3 : xlo 20 = 0 := rfl
  have e4 : xhi 20 = 0 := rfl
  have e5 : yhi 20 = 65536 := rfl
  have e6 : khi 20 = 0 := rfl
  constructor
  · rintro ⟨_, g1, g2, g3, g4, g5, g6⟩
    exact ⟨by omega, by omega, by omega, by omega⟩
  · rintro ⟨g0, g1, g2, g3⟩
    exact ⟨by omega, by omega, by omega, by omega, by omega, by omega, fun h => by omega, fun _ => hs⟩
theorem evp_0 {op n m k f l : Int} {x y z : ByteArray} {q : Nat} (h1 : 1 ≤ op) (h2 : op ≤ 21) (o2 : ¬ op = 2) (o3 : ¬ op = 3) (o4 : ¬ op = 4) (o5 : ¬ op = 5) (o6 : ¬ op = 6) (o7 : ¬ op = 7) (o12 : ¬ op = 12) (o14 : ¬ op = 14) (o15 : ¬ op = 15) (o17 : ¬ op = 17) (o19 : ¬ op = 19) (o20 : ¬ op = 20) (hk : (q : Int) ≤ 0) (hs : k = 0 ∧ f = 0 ∧ l = 0 ∧ z.size = 0) : EvP op n m x.size y.size q k f l z.size ↔ n = 0 ∧ m = 0 ∧ x.size = 0 ∧ y.size = 0 := by
  have e0 : nhi op = 0 := by unfold nhi; (repeat' split) <;> omega
  have e1 : mlo op = 0 := by unfold mlo; (repeat' split) <;> omega
  have e2 : mhi op = 0 := by unfold mhi; (repeat' split) <;> omega
  have e3 : xlo op = 0 := by unfold xlo; (repeat' split) <;> omega
  have e4 : xhi op = 0 := by unfold xhi; (repeat' split) <;> omega
  have e5 : yhi op = 0 := by unfold yhi; (repeat' split) <;> omega
  have e6 : khi op = 0 := by unfold khi; (repeat' split) <;> omega
  constructor
  · rintro ⟨_, g1, g2, g3, g4, g5, g6⟩
    exact ⟨by omega, by omega, by omega, by omega⟩
  · rintro ⟨g0, g1, g2, g3⟩
    exact ⟨by omega, by omega, by omega, by omega, by omega, by omega, fun h => by omega, fun _ => hs⟩
end Go.Proofs.Ytaoagjajjeddcaa.Fo
