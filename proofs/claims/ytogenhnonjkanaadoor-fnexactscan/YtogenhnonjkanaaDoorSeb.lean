import Derived.Test.YtogenhnonjkanaaDoorSea
import Derived.Deep.RegionHeldLaw
namespace Go.Proofs.YtogenhnonjkanaaDoor
open Go.ChangeShapes Go.WideShapes Go.ChangeAt Go.RowKit
set_option linter.unusedVariables false
/-- a token's six fields -/
structure Tv where
  k : Int
  f : Int
  t : Int
  l : Int
  n : Int
  x : ByteArray
/-- a token in its place of a row -/
structure Cel (W : World) (g o : Nat) (a : Tv) : Prop where
  c0 : W.cell? ⟨g, o, none⟩ = some (.int .i64 a.k)
  c1 : W.cell? ⟨g, o + 1, none⟩ = some (.int .i64 a.f)
  c2 : W.cell? ⟨g, o + 2, none⟩ = some (.int .i64 a.t)
  c3 : W.cell? ⟨g, o + 3, none⟩ = some (.int .i64 a.l)
  c4 : W.cell? ⟨g, o + 4, none⟩ = some (.int .i64 a.n)
  c5 : W.cell? ⟨g, o + 5, none⟩ = some (.string a.x)
def RowC (W : World) (v : Value) (g n : Nat) (A : Nat → Tv) : Prop :=
  ∃ pa cap, v = .slice pa n cap ∧ (0 < n → pa = some ⟨g, 0, none⟩ ∧ n ≤ cap) ∧ ∀ i, i < n → Cel W g (i * 6) (A i)
theorem Cel.block {W W' : World} {g o : Nat} {a : Tv} (h : Cel W g o a) (hb : W'.heap[g]? = W.heap[g]?) : Cel W' g o a := by
  have e : ∀ j, W'.cell? ⟨g, j, none⟩ = W.cell? ⟨g, j, none⟩ := fun j => World.cell?_of_block hb
  exact ⟨by rw [e]; exact h.c0, by rw [e]; exact h.c1, by rw [e]; exact h.c2, by rw [e]; exact h.c3, by rw [e]; exact h.c4, by rw [e]; exact h.c5⟩
theorem RowC.block {W W' : World} {v : Value} {g n : Nat} {A : Nat → Tv} (h : RowC W v g n A) (hb : W'.heap[g]? = W.heap[g]?) : RowC W' v g n A := by
  obtain ⟨pa, cap, h1, h2, h3⟩ := h
  exact ⟨pa, cap, h1, h2, fun i hi => (h3 i hi).block hb⟩
theorem Cel.lt {W : World} {g o : Nat} {a : Tv} (h : Cel W g o a) : g < W.heap.size := by
  have := h.c0
  exact Rd.lt_of_cell this
set_option maxRecDepth 100000 in
set_option maxHeartbeats 4000000 in
theorem eq_toks {va vb : Value} {ga gb n : Nat} {A : Nat → Tv} (w : World) (ha : RowC w va ga n A) (hb : RowC w vb gb n A) (hn : n ≤ 65536) :
    Calls Tryd.prog 17 #[va, vb] w fun e w' => e = .returned (.bool true) ∧ Below w.heap.size w w' := by
  obtain ⟨pa, ca, rfl, ha2, ha3⟩ := ha
  obtain ⟨pb, cb, rfl, hb2, hb3⟩ := hb
  have HA : Hid ((0 < n → pa = some ⟨ga, 0, none⟩ ∧ n ≤ ca) ∧ (0 < n → pb = some ⟨gb, 0, none⟩ ∧ n ≤ cb)) := (⟨ha2, hb2⟩ : _ ∧ _)
  have HR : Hid ((∀ i, i < n → Cel w ga (i * 6) (A i)) ∧ (∀ i, i < n → Cel w gb (i * 6) (A i))) := (⟨ha3, hb3⟩ : _ ∧ _)
  have hnI : (n : Int) ≤ 65536 := by omega
  clear ha2 ha3 hb2 hb3 hn
  go_enter Tryd.func17, Tryd.ntmps17
  go_wp2_with fail
  go_loopw [5] (fun s5 wr => ∃ i : Nat, s5 = .int .i64 (i : Int) ∧ i ≤ n ∧ Hid (Below w.heap.size w wr)) (fun s5 _ => n - (intOf s5).toNat)
  case atStart => exact ⟨0, rfl, Nat.zero_le _, Below.refl _ _⟩
  case round =>
    obtain ⟨i, rfl, hin, HB⟩ := hrel
    rcases Nat.lt_or_ge i n with hi | hi
    · obtain ⟨⟨rfl, hca⟩, ⟨rfl, hcb⟩⟩ : (pa = some ⟨ga, 0, none⟩ ∧ n ≤ ca) ∧ (pb = some ⟨gb, 0, none⟩ ∧ n ≤ cb) := ⟨HA.1 (by omega), HA.2 (by omega)⟩
      have hiI : (i : Int) < (n : Int) := by omega
      have ra := (show (∀ i, i < n → Cel w ga (i * 6) (A i)) ∧ _ from HR).1 i hi
      have rb := (show (∀ i, i < n → Cel w ga (i * 6) (A i)) ∧ (∀ i, i < n → Cel w gb (i * 6) (A i)) from HR).2 i hi
      have qa := ra.block (HB.block _ ra.lt)
      have qb := rb.block (HB.block _ rb.lt)
      have a0 := qa.c0
      have a1 := qa.c1
      have a2 := qa.c2
      have a3 := qa.c3
      have a4 := qa.c4
      have a5 := qa.c5
      have b0 := qb.c0
      have b1 := qb.c1
      have b2 := qb.c2
      have b3 := qb.c3
      have b4 := qb.c4
      have b5 := qb.c5
      have heq := fun W => eq_tok (A i).k (A i).f (A i).t (A i).l (A i).n (A i).x W
      have hla := qa.lt
      have hlb := qb.lt
      clear qa qb ra rb HA HR hin
      generalize (A i).k = xk at *
      generalize (A i).f = xf at *
      generalize (A i).t = xt at *
      generalize (A i).l = xl at *
      generalize (A i).n = xn at *
      generalize (A i).x = xx at *
      have hkeep : ∀ (W0 W' : World), Below W0.heap.size W0 W' → W0.heap = wr.heap → (W'.cell? ⟨ga, i * 6, none⟩ = some (.int .i64 xk) ∧ W'.cell? ⟨ga, i * 6 + 1, none⟩ = some (.int .i64 xf) ∧ W'.cell? ⟨ga, i * 6 + 2, none⟩ = some (.int .i64 xt) ∧ W'.cell? ⟨ga, i * 6 + 3, none⟩ = some (.int .i64 xl) ∧ W'.cell? ⟨ga, i * 6 + 4, none⟩ = some (.int .i64 xn) ∧ W'.cell? ⟨ga, i * 6 + 5, none⟩ = some (.string xx) ∧ W'.cell? ⟨gb, i * 6, none⟩ = some (.int .i64 xk) ∧ W'.cell? ⟨gb, i * 6 + 1, none⟩ = some (.int .i64 xf) ∧ W'.cell? ⟨gb, i * 6 + 2, none⟩ = some (.int .i64 xt) ∧ W'.cell? ⟨gb, i * 6 + 3, none⟩ = some (.int .i64 xl) ∧ W'.cell? ⟨gb, i * 6 + 4, none⟩ = some (.int .i64 xn) ∧ W'.cell? ⟨gb, i * 6 + 5, none⟩ = some (.string xx)) := by
        intro W0 W' hb he
        have ea : ∀ j, W'.cell? ⟨ga, j, none⟩ = wr.cell? ⟨ga, j, none⟩ := fun j => World.cell?_of_block (by rw [hb.block ga (by rw [he]; exact hla), he])
        have eb : ∀ j, W'.cell? ⟨gb, j, none⟩ = wr.cell? ⟨gb, j, none⟩ := fun j => World.cell?_of_block (by rw [hb.block gb (by rw [he]; exact hlb), he])
        simp only [ea, eb]
        exact ⟨a0, a1, a2, a3, a4, a5, b0, b1, b2, b3, b4, b5⟩
      have HKEEP : Hid (∀ (W0 W' : World), Below W0.heap.size W0 W' → W0.heap = wr.heap → (W'.cell? ⟨ga, i * 6, none⟩ = some (.int .i64 xk) ∧ W'.cell? ⟨ga, i * 6 + 1, none⟩ = some (.int .i64 xf) ∧ W'.cell? ⟨ga, i * 6 + 2, none⟩ = some (.int .i64 xt) ∧ W'.cell? ⟨ga, i * 6 + 3, none⟩ = some (.int .i64 xl) ∧ W'.cell? ⟨ga, i * 6 + 4, none⟩ = some (.int .i64 xn) ∧ W'.cell? ⟨ga, i * 6 + 5, none⟩ = some (.string xx) ∧ W'.cell? ⟨gb, i * 6, none⟩ = some (.int .i64 xk) ∧ W'.cell? ⟨gb, i * 6 + 1, none⟩ = some (.int .i64 xf) ∧ W'.cell? ⟨gb, i * 6 + 2, none⟩ = some (.int .i64 xt) ∧ W'.cell? ⟨gb, i * 6 + 3, none⟩ = some (.int .i64 xl) ∧ W'.cell? ⟨gb, i * 6 + 4, none⟩ = some (.int .i64 xn) ∧ W'.cell? ⟨gb, i * 6 + 5, none⟩ = some (.string xx))) := hkeep
      have HB2 : Hid (∀ (W0 W' : World), Below W0.heap.size W0 W' → (Below w.heap.size w wr → Below w.heap.size w W0) → Below w.heap.size w W') := (fun W0 W' h1 h2 => (h2 HB).trans (h1.mono (h2 HB).size) : ∀ (W0 W' : World), Below W0.heap.size W0 W' → (Below w.heap.size w wr → Below w.heap.size w W0) → Below w.heap.size w W')
      clear hkeep hla hlb
      go_wp2_with fail
      go_region_held_law (fun W' => W'.cell? ⟨ga, i * 6, none⟩ = some (.int .i64 xk) ∧ W'.cell? ⟨ga, i * 6 + 1, none⟩ = some (.int .i64 xf) ∧ W'.cell? ⟨ga, i * 6 + 2, none⟩ = some (.int .i64 xt) ∧ W'.cell? ⟨ga, i * 6 + 3, none⟩ = some (.int .i64 xl) ∧ W'.cell? ⟨ga, i * 6 + 4, none⟩ = some (.int .i64 xn) ∧ W'.cell? ⟨ga, i * 6 + 5, none⟩ = some (.string xx) ∧ W'.cell? ⟨gb, i * 6, none⟩ = some (.int .i64 xk) ∧ W'.cell? ⟨gb, i * 6 + 1, none⟩ = some (.int .i64 xf) ∧ W'.cell? ⟨gb, i * 6 + 2, none⟩ = some (.int .i64 xt) ∧ W'.cell? ⟨gb, i * 6 + 3, none⟩ = some (.int .i64 xl) ∧ W'.cell? ⟨gb, i * 6 + 4, none⟩ = some (.int .i64 xn) ∧ W'.cell? ⟨gb, i * 6 + 5, none⟩ = some (.string xx)) (first | exact ⟨a0, a1, a2, a3, a4, a5, b0, b1, b2, b3, b4, b5⟩ | exact (show ∀ (W0 W' : World), _ from HKEEP) _ _ hb5 rfl) ((go_at_call 42; refine (heq _).mono ?_; rintro e w5 ⟨rfl, hb5⟩))
      all_goals
        have HB5 : Hid (Below w.heap.size w w5) := (show ∀ (W0 W' : World), Below W0.heap.size W0 W' → (Below w.heap.size w wr → Below w.heap.size w W0) → Below w.heap.size w W' from HB2) _ _ hb5 (fun h => ⟨h.os, h.tape, h.output, h.size, h.block⟩)
        clear HB HB2 HKEEP hb5 a0 a1 a2 a3 a4 a5 b0 b1 b2 b3 b4 b5
        go_wp2_with fail
        go_roundw
        case rel => exact ⟨i + 1, by go_num, by omega, HB5⟩
        case measure => simp [intOf]; omega
    · obtain rfl : i = n := by omega
      clear HA HR
      go_wp2_with fail
      go_ret
      exact ⟨rfl, HB⟩
end Go.Proofs.YtogenhnonjkanaaDoor
