import Derived.Test.YtgocahalfanpjaaDoorWta
import Derived.Test.YtgocahalfanpjaaDoorCna
namespace Go.Proofs.YtgocahalfanpjaaDoor.Fo
open Go.ChangeShapes Go.WideShapes Go.ChangeAt Go.RowKit
set_option linter.unusedVariables false
set_option maxRecDepth 100000

/-- the first part of a name -/
def hdB (l : List UInt8) : List UInt8 := (spB l).headD []
def near (l : List UInt8) : Bool := (hdB l == [46]) || (hdB l == [46, 46])
/-- a name under a root -/
def rjn (r m : List UInt8) : List UInt8 := if r = [] then m else r ++ 47 :: m
def rtd (A : Nat → ByteArray) (m : List UInt8) (i : Nat) : Int × List UInt8 := cln [] (rjn (A i).data.toList m)
/-- one more name, if it is one and isn't there -/
def dstp (L : List (List UInt8)) (c : Int × List UInt8) : List (List UInt8) := if c.1 = 0 then (if c.2 ∈ L then L else L ++ [c.2]) else L
def dsn (F : Nat → Int × List UInt8) : Nat → List (List UInt8)
  | 0 => []
  | i + 1 => dstp (dsn F i) (F i)
theorem dstp_len (L : List (List UInt8)) (c : Int × List UInt8) : (dstp L c).length ≤ L.length + 1 := by
  unfold dstp
  split
  · split
    · omega
    · simp
  · omega
theorem dsn_len (F : Nat → Int × List UInt8) : ∀ i, (dsn F i).length ≤ i
  | 0 => Nat.le_refl _
  | i + 1 => by
    have h1 := dsn_len F i
    have h2 := dstp_len (dsn F i) (F i)
    show (dstp (dsn F i) (F i)).length ≤ i + 1
    omega
theorem dsn_congr {F G : Nat → Int × List UInt8} : ∀ {i : Nat}, (∀ j, j < i → F j = G j) → dsn F i = dsn G i
  | 0, _ => rfl
  | i + 1, h => by
    show dstp (dsn F i) (F i) = dstp (dsn G i) (G i)
    rw [dsn_congr (fun j hj => h j (by omega)), h i (by omega)]
/-- what Tries answers -/
def trs (n : Nat) (A : Nat → ByteArray) (f l : List UInt8) : List (List UInt8) :=
  if 8 < n then [] else if near l = true then dsn (fun _ => wth f l) 1 else if (cln [] l).1 = 0 then dsn (rtd A (cln [] l).2) n else []
theorem trs_len (n : Nat) (A : Nat → ByteArray) (f l : List UInt8) : (trs n A f l).length ≤ 8 := by
  unfold trs
  split
  · simp
  split
  · have := dsn_len (fun _ => wth f l) 1; omega
  split
  · have := dsn_len (rtd A (cln [] l).2) n; omega
  · simp
theorem okp_dot : okp [46] = false := by decide
theorem okp_dots : okp [46, 46] = false := by decide
theorem wst_all : ∀ (P R : List (List UInt8)), (∀ p ∈ P, okp p = true) → wst R P = (0, R ++ P)
  | [], R, _ => by rw [wst, List.append_nil]
  | x :: P, R, h => by
    have hx := h x (List.mem_cons_self)
    have n1 : x ≠ [46] := fun e => by rw [e, okp_dot] at hx; cases hx
    have n2 : x ≠ [46, 46] := fun e => by rw [e, okp_dots] at hx; cases hx
    rw [wst, if_neg n1, if_neg n2, if_pos hx, wst_all P (R ++ [x]) (fun p hp => h p (List.mem_cons_of_mem _ hp)), List.append_assoc]
    rfl
/-- a clean name's form is itself -/
theorem cln_idem {l m : List UInt8} (h : cln [] l = (0, m)) : cln [] m = (0, m) := by
  obtain ⟨h1, h2, R, h3, h4, h5, h6⟩ := cln_row h
  have hw : wst [] (spB m) = (0, R) := by rw [h6, wst_all R [] h4]; rfl
  unfold cln
  rw [if_neg (by omega), hw, if_neg (by simp), if_neg h3, ← h5, if_neg (by omega)]
theorem dsn_one (c : Int × List UInt8) : dsn (fun _ => c) 1 = if c.1 = 0 then [c.2] else [] := by
  show dstp [] c = _
  unfold dstp
  split
  · rw [if_neg (by simp)]; rfl
  · rfl
end Go.Proofs.YtgocahalfanpjaaDoor.Fo
