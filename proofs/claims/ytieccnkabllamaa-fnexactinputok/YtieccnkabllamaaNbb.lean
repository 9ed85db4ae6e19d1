import Derived.Test.YtieccnkabllamaaNba
namespace Go.Proofs.Ytieccnkabllamaa.Fo
open Go.ChangeShapes Go.WideShapes Go.ChangeAt Go.RowKit
set_option linter.unusedVariables false
set_option maxRecDepth 100000
/-- a node's fields, without its rows -/
structure Nv where
  k : Int
  l : Int
  o : Int
  m : Int
  g : Nat
  x : ByteArray
/-- a node: its fields, its Refs, its Kids -/
structure Nd where
  a : Nv
  p : Nat
  R : Nat → Int
  q : Nat
  K : Nat → Int
/-- a fn: its fields, its Vars, Ups and Nodes -/
structure Fd where
  x : ByteArray
  l : Int
  m : Int
  r : Bool
  p : Nat
  V : Nat → ByteArray
  u : Nat
  U : Nat → Bool × Int
  n : Nat
  N : Nat → Nd
instance : Inhabited Nd := ⟨⟨⟨0, 0, 0, 0, 0, ⟨#[]⟩⟩, 0, fun _ => 0, 0, fun _ => 0⟩⟩
instance : Inhabited Fd := ⟨⟨⟨#[]⟩, 0, 0, false, 0, fun _ => ⟨#[]⟩, 0, fun _ => (false, 0), 0, fun _ => default⟩⟩
def ndv (a : Nv) (vr vk : Value) : Value := .agg #[.int .i64 a.k, .int .i64 a.l, .int .i64 a.o, .int .i64 a.m, .float .f64 a.g, .string a.x, vr, vk]
def upv (u : Bool × Int) : Value := .agg #[.bool u.1, .int .i64 u.2]
def fnv (f : Fd) (vv vu vn : Value) : Value := .agg #[.string f.x, .int .i64 f.l, .int .i64 f.m, .bool f.r, vv, vu, vn]
/-- a node in its eight cells, the first at b -/
structure CelN (W : World) (b : Addr) (a : Nv) (vr vk : Value) : Prop where
  c0 : W.cell? b = some (.int .i64 a.k)
  c1 : W.cell? ⟨b.block, b.off + 1, none⟩ = some (.int .i64 a.l)
  c2 : W.cell? ⟨b.block, b.off + 2, none⟩ = some (.int .i64 a.o)
  c3 : W.cell? ⟨b.block, b.off + 3, none⟩ = some (.int .i64 a.m)
  c4 : W.cell? ⟨b.block, b.off + 4, none⟩ = some (.float .f64 a.g)
  c5 : W.cell? ⟨b.block, b.off + 5, none⟩ = some (.string a.x)
  c6 : W.cell? ⟨b.block, b.off + 6, none⟩ = some (vr)
  c7 : W.cell? ⟨b.block, b.off + 7, none⟩ = some (vk)
theorem CelN.keep {W W' : World} {c : Nat} {b : Addr} {a : Nv} {vr vk : Value} (h : CelN W b a vr vk) (hb : c ≤ b.block) (k : Kb c W W') : CelN W' b a vr vk :=
  ⟨k.cellA hb h.c0, k.cellA hb h.c1, k.cellA hb h.c2, k.cellA hb h.c3, k.cellA hb h.c4, k.cellA hb h.c5, k.cellA hb h.c6, k.cellA hb h.c7⟩
theorem CelN.of {W : World} {g o : Nat} {a : Nv} {vr vk : Value} (h : ∀ t, t < 8 → W.cell? ⟨g, o + t, none⟩ = ([.int .i64 a.k, .int .i64 a.l, .int .i64 a.o, .int .i64 a.m, .float .f64 a.g, .string a.x, vr, vk] : List Value)[t]?) : CelN W ⟨g, o, none⟩ a vr vk :=
  ⟨h 0 (by omega), h 1 (by omega), h 2 (by omega), h 3 (by omega), h 4 (by omega), h 5 (by omega), h 6 (by omega), h 7 (by omega)⟩
/-- an up in its two cells -/
structure CelU (W : World) (b : Addr) (u : Bool × Int) : Prop where
  c0 : W.cell? b = some (.bool u.1)
  c1 : W.cell? ⟨b.block, b.off + 1, none⟩ = some (.int .i64 u.2)
theorem CelU.keep {W W' : World} {c : Nat} {b : Addr} {u : Bool × Int} (h : CelU W b u) (hb : c ≤ b.block) (k : Kb c W W') : CelU W' b u :=
  ⟨k.cellA hb h.c0, k.cellA hb h.c1⟩
theorem CelU.of {W : World} {g o : Nat} {u : Bool × Int} (h : ∀ t, t < 2 → W.cell? ⟨g, o + t, none⟩ = ([.bool u.1, .int .i64 u.2] : List Value)[t]?) : CelU W ⟨g, o, none⟩ u :=
  ⟨h 0 (by omega), h 1 (by omega)⟩
/-- a fn in its seven cells -/
structure CelF (W : World) (b : Addr) (f : Fd) (vv vu vn : Value) : Prop where
  c0 : W.cell? b = some (.string f.x)
  c1 : W.cell? ⟨b.block, b.off + 1, none⟩ = some (.int .i64 f.l)
  c2 : W.cell? ⟨b.block, b.off + 2, none⟩ = some (.int .i64 f.m)
  c3 : W.cell? ⟨b.block, b.off + 3, none⟩ = some (.bool f.r)
  c4 : W.cell? ⟨b.block, b.off + 4, none⟩ = some (vv)
  c5 : W.cell? ⟨b.block, b.off + 5, none⟩ = some (vu)
  c6 : W.cell? ⟨b.block, b.off + 6, none⟩ = some (vn)
theorem CelF.keep {W W' : World} {c : Nat} {b : Addr} {f : Fd} {vv vu vn : Value} (h : CelF W b f vv vu vn) (hb : c ≤ b.block) (k : Kb c W W') : CelF W' b f vv vu vn :=
  ⟨k.cellA hb h.c0, k.cellA hb h.c1, k.cellA hb h.c2, k.cellA hb h.c3, k.cellA hb h.c4, k.cellA hb h.c5, k.cellA hb h.c6⟩
theorem CelF.of {W : World} {g o : Nat} {f : Fd} {vv vu vn : Value} (h : ∀ t, t < 7 → W.cell? ⟨g, o + t, none⟩ = ([.string f.x, .int .i64 f.l, .int .i64 f.m, .bool f.r, vv, vu, vn] : List Value)[t]?) : CelF W ⟨g, o, none⟩ f vv vu vn :=
  ⟨h 0 (by omega), h 1 (by omega), h 2 (by omega), h 3 (by omega), h 4 (by omega), h 5 (by omega), h 6 (by omega)⟩
/-- a node with its rows, in its place -/
def NodeC (b : Nat) (W : World) (p : Addr) (g : Nd) : Prop := ∃ vr vk, CelN W p g.a vr vk ∧ RowB b W vr g.p (fun i => .int .i64 (g.R i)) ∧ RowB b W vk g.q (fun i => .int .i64 (g.K i))
theorem NodeC.keep {b : Nat} {W W' : World} {p : Addr} {g : Nd} (h : NodeC b W p g) (hb : b ≤ p.block) (k : Kb b W W') : NodeC b W' p g := by
  obtain ⟨vr, vk, h1, h2, h3⟩ := h
  exact ⟨vr, vk, h1.keep hb k, h2.keep k, h3.keep k⟩
theorem NodeC.mono {b c : Nat} {W : World} {p : Addr} {g : Nd} (h : NodeC b W p g) (hc : c ≤ b) : NodeC c W p g := by
  obtain ⟨vr, vk, h1, h2, h3⟩ := h
  exact ⟨vr, vk, h1, h2.mono hc, h3.mono hc⟩
def UpC (b : Nat) (W : World) (p : Addr) (u : Bool × Int) : Prop := CelU W p u
theorem UpC.keep {b : Nat} {W W' : World} {p : Addr} {u : Bool × Int} (h : UpC b W p u) (hb : b ≤ p.block) (k : Kb b W W') : UpC b W' p u := CelU.keep h hb k
theorem UpC.mono {b c : Nat} {W : World} {p : Addr} {u : Bool × Int} (h : UpC b W p u) (hc : c ≤ b) : UpC c W p u := h
/-- a row of nodes -/
def RowN (b : Nat) (W : World) (v : Value) (n : Nat) (N : Nat → Nd) : Prop :=
  ∃ pa cap, v = .slice pa n cap ∧ (0 < n → ∃ a : Addr, pa = some a ∧ n ≤ cap ∧ b ≤ a.block ∧ ∀ i, i < n → NodeC b W (a.add (i * 8)) (N i))
theorem RowN.keep {b : Nat} {W W' : World} {v : Value} {n : Nat} {N : Nat → Nd} (h : RowN b W v n N) (k : Kb b W W') : RowN b W' v n N := by
  obtain ⟨pa, cap, h1, h2⟩ := h
  refine ⟨pa, cap, h1, fun hn => ?_⟩
  obtain ⟨a, e1, e2, e0, e3⟩ := h2 hn
  exact ⟨a, e1, e2, e0, fun i hi => (e3 i hi).keep (by rw [add_block]; exact e0) k⟩
theorem RowN.mono {b c : Nat} {W : World} {v : Value} {n : Nat} {N : Nat → Nd} (h : RowN b W v n N) (hc : c ≤ b) : RowN c W v n N := by
  obtain ⟨pa, cap, h1, h2⟩ := h
  refine ⟨pa, cap, h1, fun hn => ?_⟩
  obtain ⟨a, e1, e2, e0, e3⟩ := h2 hn
  exact ⟨a, e1, e2, Nat.le_trans hc e0, fun i hi => (e3 i hi).mono hc⟩
/-- a row of ups -/
def RowU (b : Nat) (W : World) (v : Value) (n : Nat) (U : Nat → Bool × Int) : Prop :=
  ∃ pa cap, v = .slice pa n cap ∧ (0 < n → ∃ a : Addr, pa = some a ∧ n ≤ cap ∧ b ≤ a.block ∧ ∀ i, i < n → UpC b W (a.add (i * 2)) (U i))
theorem RowU.keep {b : Nat} {W W' : World} {v : Value} {n : Nat} {U : Nat → Bool × Int} (h : RowU b W v n U) (k : Kb b W W') : RowU b W' v n U := by
  obtain ⟨pa, cap, h1, h2⟩ := h
  refine ⟨pa, cap, h1, fun hn => ?_⟩
  obtain ⟨a, e1, e2, e0, e3⟩ := h2 hn
  exact ⟨a, e1, e2, e0, fun i hi => (e3 i hi).keep (by rw [add_block]; exact e0) k⟩
theorem RowU.mono {b c : Nat} {W : World} {v : Value} {n : Nat} {U : Nat → Bool × Int} (h : RowU b W v n U) (hc : c ≤ b) : RowU c W v n U := by
  obtain ⟨pa, cap, h1, h2⟩ := h
  refine ⟨pa, cap, h1, fun hn => ?_⟩
  obtain ⟨a, e1, e2, e0, e3⟩ := h2 hn
  exact ⟨a, e1, e2, Nat.le_trans hc e0, fun i hi => (e3 i hi).mono hc⟩
/-- a fn with its rows, in its place -/
def FnC (b : Nat) (W : World) (p : Addr) (f : Fd) : Prop := ∃ vv vu vn, CelF W p f vv vu vn ∧ RowB b W vv f.p (fun i => .string (f.V i)) ∧ RowU b W vu f.u f.U ∧ RowN b W vn f.n f.N
theorem FnC.keep {b : Nat} {W W' : World} {p : Addr} {g : Fd} (h : FnC b W p g) (hb : b ≤ p.block) (k : Kb b W W') : FnC b W' p g := by
  obtain ⟨vr, vk, vn, h1, h2, h3, h4⟩ := h
  exact ⟨vr, vk, vn, h1.keep hb k, h2.keep k, h3.keep k, h4.keep k⟩
theorem FnC.mono {b c : Nat} {W : World} {p : Addr} {g : Fd} (h : FnC b W p g) (hc : c ≤ b) : FnC c W p g := by
  obtain ⟨vr, vk, vn, h1, h2, h3, h4⟩ := h
  exact ⟨vr, vk, vn, h1, h2.mono hc, h3.mono hc, h4.mono hc⟩
/-- a row of fns -/
def RowF (b : Nat) (W : World) (v : Value) (n : Nat) (F : Nat → Fd) : Prop :=
  ∃ pa cap, v = .slice pa n cap ∧ (0 < n → ∃ a : Addr, pa = some a ∧ n ≤ cap ∧ b ≤ a.block ∧ ∀ i, i < n → FnC b W (a.add (i * 7)) (F i))
theorem RowF.keep {b : Nat} {W W' : World} {v : Value} {n : Nat} {F : Nat → Fd} (h : RowF b W v n F) (k : Kb b W W') : RowF b W' v n F := by
  obtain ⟨pa, cap, h1, h2⟩ := h
  refine ⟨pa, cap, h1, fun hn => ?_⟩
  obtain ⟨a, e1, e2, e0, e3⟩ := h2 hn
  exact ⟨a, e1, e2, e0, fun i hi => (e3 i hi).keep (by rw [add_block]; exact e0) k⟩
theorem RowF.mono {b c : Nat} {W : World} {v : Value} {n : Nat} {F : Nat → Fd} (h : RowF b W v n F) (hc : c ≤ b) : RowF c W v n F := by
  obtain ⟨pa, cap, h1, h2⟩ := h
  refine ⟨pa, cap, h1, fun hn => ?_⟩
  obtain ⟨a, e1, e2, e0, e3⟩ := h2 hn
  exact ⟨a, e1, e2, Nat.le_trans hc e0, fun i hi => (e3 i hi).mono hc⟩
end Go.Proofs.Ytieccnkabllamaa.Fo
