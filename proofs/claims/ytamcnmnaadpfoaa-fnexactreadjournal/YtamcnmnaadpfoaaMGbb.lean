import Derived.Test.YtamcnmnaadpfoaaMNba
namespace Go.Proofs.Ytamcnmnaadpfoaa.Fo
open Go.ChangeShapes Go.WideShapes Go.ChangeAt Go.RowKit
set_option linter.unusedVariables false
set_option maxRecDepth 100000
/-- a value of a graph: Kind, Num, Text, Node -/
structure Gv where
  k : Int
  m : Int
  x : ByteArray
  r : Int
/-- a thing: its Tag and its values -/
structure Td where
  t : Int
  c : Nat
  C : Nat → Gv
instance : Inhabited Gv := ⟨⟨0, 0, ⟨#[]⟩, 0⟩⟩
instance : Inhabited Td := ⟨⟨0, 0, fun _ => default⟩⟩
def gvv (a : Gv) : Value := .agg #[.int .i64 a.k, .int .i64 a.m, .string a.x, .int .i64 a.r]
def thv (f : Td) (vc : Value) : Value := .agg #[.int .i64 f.t, vc]
def grv (a : Gv) (vn : Value) : Value := .agg #[.int .i64 a.k, .int .i64 a.m, .string a.x, .int .i64 a.r, vn]
/-- a value in its cells -/
structure CelV (W : World) (b : Addr) (a : Gv) : Prop where
  c0 : W.cell? b = some (.int .i64 a.k)
  c1 : W.cell? ⟨b.block, b.off + 1, none⟩ = some (.int .i64 a.m)
  c2 : W.cell? ⟨b.block, b.off + 2, none⟩ = some (.string a.x)
  c3 : W.cell? ⟨b.block, b.off + 3, none⟩ = some (.int .i64 a.r)
theorem CelV.keep {W W' : World} {c : Nat} {b : Addr} {a : Gv} (h : CelV W b a) (hb : c ≤ b.block) (k : Kb c W W') : CelV W' b a :=
  ⟨k.cellA hb h.c0, k.cellA hb h.c1, k.cellA hb h.c2, k.cellA hb h.c3⟩
theorem CelV.of {W : World} {g o : Nat} {a : Gv} (h : ∀ t, t < 4 → W.cell? ⟨g, o + t, none⟩ = ([.int .i64 a.k, .int .i64 a.m, .string a.x, .int .i64 a.r] : List Value)[t]?) : CelV W ⟨g, o, none⟩ a :=
  ⟨h 0 (by omega), h 1 (by omega), h 2 (by omega), h 3 (by omega)⟩
def ValC (b : Nat) (W : World) (p : Addr) (a : Gv) : Prop := CelV W p a
theorem ValC.keep {b : Nat} {W W' : World} {p : Addr} {a : Gv} (h : ValC b W p a) (hb : b ≤ p.block) (k : Kb b W W') : ValC b W' p a := CelV.keep h hb k
theorem ValC.mono {b c : Nat} {W : World} {p : Addr} {a : Gv} (h : ValC b W p a) (hc : c ≤ b) : ValC c W p a := h
/-- a row of values -/
def RowW (b : Nat) (W : World) (v : Value) (n : Nat) (C : Nat → Gv) : Prop :=
  ∃ pa cap, v = .slice pa n cap ∧ (0 < n → ∃ a : Addr, pa = some a ∧ n ≤ cap ∧ b ≤ a.block ∧ ∀ i, i < n → ValC b W (a.add (i * 4)) (C i))
theorem RowW.keep {b : Nat} {W W' : World} {v : Value} {n : Nat} {C : Nat → Gv} (h : RowW b W v n C) (k : Kb b W W') : RowW b W' v n C := by
  obtain ⟨pa, cap, h1, h2⟩ := h
  refine ⟨pa, cap, h1, fun hn => ?_⟩
  obtain ⟨a, e1, e2, e0, e3⟩ := h2 hn
  exact ⟨a, e1, e2, e0, fun i hi => (e3 i hi).keep (by rw [add_block]; exact e0) k⟩
theorem RowW.mono {b c : Nat} {W : World} {v : Value} {n : Nat} {C : Nat → Gv} (h : RowW b W v n C) (hc : c ≤ b) : RowW c W v n C := by
  obtain ⟨pa, cap, h1, h2⟩ := h
  refine ⟨pa, cap, h1, fun hn => ?_⟩
  obtain ⟨a, e1, e2, e0, e3⟩ := h2 hn
  exact ⟨a, e1, e2, Nat.le_trans hc e0, fun i hi => (e3 i hi).mono hc⟩
/-- a thing in its two cells -/
structure CelT (W : World) (b : Addr) (f : Td) (vc : Value) : Prop where
  c0 : W.cell? b = some (.int .i64 f.t)
  c1 : W.cell? ⟨b.block, b.off + 1, none⟩ = some (vc)
theorem CelT.keep {W W' : World} {c : Nat} {b : Addr} {f : Td} {vc : Value} (h : CelT W b f vc) (hb : c ≤ b.block) (k : Kb c W W') : CelT W' b f vc :=
  ⟨k.cellA hb h.c0, k.cellA hb h.c1⟩
theorem CelT.of {W : World} {g o : Nat} {f : Td} {vc : Value} (h : ∀ t, t < 2 → W.cell? ⟨g, o + t, none⟩ = ([.int .i64 f.t, vc] : List Value)[t]?) : CelT W ⟨g, o, none⟩ f vc :=
  ⟨h 0 (by omega), h 1 (by omega)⟩
/-- a thing with its row, in its place -/
def ThC (b : Nat) (W : World) (p : Addr) (f : Td) : Prop := ∃ vc, CelT W p f vc ∧ RowW b W vc f.c f.C
theorem ThC.keep {b : Nat} {W W' : World} {p : Addr} {f : Td} (h : ThC b W p f) (hb : b ≤ p.block) (k : Kb b W W') : ThC b W' p f := by
  obtain ⟨vc, h1, h2⟩ := h
  exact ⟨vc, h1.keep hb k, h2.keep k⟩
theorem ThC.mono {b c : Nat} {W : World} {p : Addr} {f : Td} (h : ThC b W p f) (hc : c ≤ b) : ThC c W p f := by
  obtain ⟨vc, h1, h2⟩ := h
  exact ⟨vc, h1, h2.mono hc⟩
/-- a row of things -/
def RowT (b : Nat) (W : World) (v : Value) (n : Nat) (F : Nat → Td) : Prop :=
  ∃ pa cap, v = .slice pa n cap ∧ (0 < n → ∃ a : Addr, pa = some a ∧ n ≤ cap ∧ b ≤ a.block ∧ ∀ i, i < n → ThC b W (a.add (i * 2)) (F i))
theorem RowT.keep {b : Nat} {W W' : World} {v : Value} {n : Nat} {F : Nat → Td} (h : RowT b W v n F) (k : Kb b W W') : RowT b W' v n F := by
  obtain ⟨pa, cap, h1, h2⟩ := h
  refine ⟨pa, cap, h1, fun hn => ?_⟩
  obtain ⟨a, e1, e2, e0, e3⟩ := h2 hn
  exact ⟨a, e1, e2, e0, fun i hi => (e3 i hi).keep (by rw [add_block]; exact e0) k⟩
theorem RowT.mono {b c : Nat} {W : World} {v : Value} {n : Nat} {F : Nat → Td} (h : RowT b W v n F) (hc : c ≤ b) : RowT c W v n F := by
  obtain ⟨pa, cap, h1, h2⟩ := h
  refine ⟨pa, cap, h1, fun hn => ?_⟩
  obtain ⟨a, e1, e2, e0, e3⟩ := h2 hn
  exact ⟨a, e1, e2, Nat.le_trans hc e0, fun i hi => (e3 i hi).mono hc⟩
end Go.Proofs.Ytamcnmnaadpfoaa.Fo

namespace Go.Proofs.Ytamcnmnaadpfoaa.Fo
open Go.ChangeShapes Go.WideShapes Go.ChangeAt Go.RowKit
set_option linter.unusedVariables false
set_option maxRecDepth 100000
/-- the sum of the first i -/
def sm (s : Nat → Nat) : Nat → Nat
  | 0 => 0
  | i + 1 => sm s i + s i
theorem sm_mono (s : Nat → Nat) {i n : Nat} (h : i ≤ n) : sm s i ≤ sm s n := by
  induction n with
  | zero => obtain rfl : i = 0 := by omega
            exact Nat.le_refl _
  | succ n ih =>
    by_cases e : i = n + 1
    · subst e; exact Nat.le_refl _
    · have := ih (by omega)
      show _ ≤ sm s n + s n
      omega
theorem sm_one (s : Nat → Nat) {i n : Nat} (h : i < n) : s i ≤ sm s n := by
  have := sm_mono s (show i + 1 ≤ n from h)
  have e : sm s (i + 1) = sm s i + s i := rfl
  omega
/-- what a measuring answers -/
def Szd (s : Nat) (l : Int) (W : World) : Ending → World → Prop := fun e w' => ∃ r : Int, e = .returned (.int .i64 r) ∧ (0 ≤ r → r + (s : Int) ≤ l) ∧ -1 ≤ r ∧ r ≤ l ∧ Kb 0 W w'
/-- the size of a thing -/
def szT (F : Nat → Td) (i : Nat) : Nat := (F i).c + sm (fun j => ((F i).C j).x.size) (F i).c
def BT (F : Nat → Td) (n : Nat) : Prop := ∀ i, i < n → ((F i).c : Int) < 140737488355328 ∧ ∀ j, j < (F i).c → (((F i).C j).x.size : Int) < 140737488355328
theorem choose_fn {α : Type} [inst : Inhabited α] {n : Nat} {p : Nat → α → Prop} (h : ∀ i, i < n → ∃ a, p i a) : ∃ f : Nat → α, ∀ i, i < n → p i (f i) := by
  refine ⟨fun i => if h' : i < n then (h i h').choose else default, fun i hi => ?_⟩
  simp only [hi, dif_pos]
  exact (h i hi).choose_spec
end Go.Proofs.Ytamcnmnaadpfoaa.Fo
