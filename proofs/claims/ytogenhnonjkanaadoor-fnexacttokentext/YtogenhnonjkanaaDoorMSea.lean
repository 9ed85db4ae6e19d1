import Derived.Test.YtogenhnonjkanaaDoorMSbl
import Derived.Deep.RegionHeldLaw
namespace Go.Proofs.YtogenhnonjkanaaDoor
open Go.ChangeShapes Go.WideShapes Go.ChangeAt Go.RowKit
set_option linter.unusedVariables false
set_option maxRecDepth 100000 in
set_option maxHeartbeats 4000000 in
theorem eq_tok (k f t l n : Int) (x : ByteArray) (w : World) : Calls Tryd.prog 42 #[.agg #[.int .i64 k, .int .i64 f, .int .i64 t, .int .i64 l, .int .i64 n, .string x], .agg #[.int .i64 k, .int .i64 f, .int .i64 t, .int .i64 l, .int .i64 n, .string x]] w fun e w' => e = .returned (.bool true) ∧ Below w.heap.size w w' := by
  go_enter Tryd.func42, Tryd.ntmps42
  go_wp2_with fail
  go_ret
  exact ⟨rfl, bel2 w _ _⟩
theorem conv_one (W : World) (c : UInt8) : (convert 66 9 (.slice (some ⟨W.heap.size, 0, none⟩) 1 1)).run Tryd.prog (W.alloc (.cells #[.int .u8 (c.toNat : Int)] 5)) = .ok (.string ⟨#[c]⟩) (W.alloc (.cells #[.int .u8 (c.toNat : Int)] 5)) := by
  have := run_convert_bytes_back (P := Tryd.prog) (W.alloc (.cells #[.int .u8 (c.toNat : Int)] 5)) 66 9 5 ⟨W.heap.size, 0, none⟩ 1 [c] Tryd.underlying66 Tryd.underlying5 Tryd.underlying9 (fun j hj => by
    obtain rfl : j = 0 := by simp at hj; omega
    simp [Addr.add])
  simpa using this
/-- the digits of a mark's text -/
def mtl (k : Nat) (out : ByteArray) : ByteArray := if h : k = 0 then out else mtl (k / 10) (⟨#[UInt8.ofNat (48 + k % 10)]⟩ ++ out)
termination_by k
decreasing_by omega
set_option maxRecDepth 100000 in
set_option maxHeartbeats 4000000 in
theorem mark_text (k : Nat) (hk : 1 ≤ k) (hk2 : (k : Int) ≤ 1000000) (w : World) : Calls Tryd.prog 43 #[.int .i64 (k : Int)] w fun e w' => e = .returned (.string (⟨#[109]⟩ ++ mtl k ⟨#[]⟩)) ∧ Below w.heap.size w w' := by
  have hk0 : ¬ (k : Int) ≤ 0 := by omega
  go_enter Tryd.func43, Tryd.ntmps43
  go_upto_block 0 with fail
  go_wp2_with fail
  go_loopw [0, 3] (fun s0 s3 wr => ∃ (j : Nat) (out : ByteArray), s0 = .int .i64 (j : Int) ∧ s3 = .string out ∧ j + out.size ≤ k ∧ Hid (mtl j out = mtl k ⟨#[]⟩ ∧ Below w.heap.size w wr)) (fun s0 _ _ => (intOf s0).toNat)
  case atStart => exact ⟨k, ⟨#[]⟩, rfl, rfl, (by show k + 0 ≤ k; omega), (⟨rfl, Below.refl _ _⟩ : _ ∧ _)⟩
  case round =>
    obtain ⟨j, out, rfl, rfl, hj, HB⟩ := hrel
    have hsz : ¬ 9223372036854775807 < 1 + out.size := by omega
    by_cases h0 : j = 0
    · subst h0
      have hB := (show mtl 0 out = mtl k ⟨#[]⟩ ∧ Below w.heap.size w wr from HB)
      have e : out = mtl k ⟨#[]⟩ := by rw [← hB.1]; unfold mtl; rfl
      have HB2 : Hid (out = mtl k ⟨#[]⟩ ∧ Below w.heap.size w wr) := (⟨e, hB.2⟩ : _ ∧ _)
      clear HB hB e
      go_wp2_with fail
      go_ret
      rw [show out = mtl k ⟨#[]⟩ from HB2.1]
      exact ⟨rfl, HB2.2⟩
    · have hj0 : (0 : Int) < (j : Int) := by omega
      have hd0 : (0 : Int) ≤ ((j % 10 : Nat) : Int) := by omega
      have hd1 : ((j % 10 : Nat) : Int) < 10 := by omega
      have hq : Int.tmod (j : Int) 10 = ((j % 10 : Nat) : Int) := rfl
      have hq2 : Int.tdiv (j : Int) 10 = ((j / 10 : Nat) : Int) := rfl
      have hcv := conv_one wr (UInt8.ofNat (48 + j % 10))
      have hcn : ((UInt8.ofNat (48 + j % 10)).toNat : Int) = 48 + ((j % 10 : Nat) : Int) := by
        have : (UInt8.ofNat (48 + j % 10)).toNat = 48 + j % 10 := by
          rw [UInt8.toNat_ofNat']; omega
        omega
      rw [hcn] at hcv
      have hstep : mtl j out = mtl (j / 10) (⟨#[UInt8.ofNat (48 + j % 10)]⟩ ++ out) := by rw [mtl, dif_neg h0]
      have HB1 : Hid (mtl (j / 10) (⟨#[UInt8.ofNat (48 + j % 10)]⟩ ++ out) = mtl k ⟨#[]⟩ ∧ Below w.heap.size w (wr.alloc (.cells #[.int .u8 (48 + ((j % 10 : Nat) : Int))] 5))) :=
        (⟨hstep.symm.trans HB.1, HB.2.alloc HB.2.size _⟩ : _ ∧ _)
      clear HB hstep hcn
      generalize UInt8.ofNat (48 + j % 10) = c at *
      generalize ((j % 10 : Nat) : Int) = r at *
      generalize hjq : j / 10 = jq at *
      go_wp2_with fail
      go_roundw
      case rel => exact ⟨jq, ⟨#[c]⟩ ++ out, rfl, rfl, by rw [ByteArray.size_append]; show jq + (1 + out.size) ≤ k; omega, HB1⟩
      case measure => simp [intOf]; omega
end Go.Proofs.YtogenhnonjkanaaDoor
namespace Go.Proofs.YtogenhnonjkanaaDoor
open Go.ChangeShapes Go.WideShapes Go.ChangeAt Go.RowKit
set_option linter.unusedVariables false
/-- a token's six fields -/
structure Tv where
  k : Int
  f : Int
  t : Int
  l : Int
  n : Int
  x : ByteArray
/-- a token in its place of a row -/
structure Cel (W : World) (g o : Nat) (a : Tv) : Prop where
  c0 : W.cell? ⟨g, o, none⟩ = some (.int .i64 a.k)
  c1 : W.cell? ⟨g, o + 1, none⟩ = some (.int .i64 a.f)
  c2 : W.cell? ⟨g, o + 2, none⟩ = some (.int .i64 a.t)
  c3 : W.cell? ⟨g, o + 3, none⟩ = some (.int .i64 a.l)
  c4 : W.cell? ⟨g, o + 4, none⟩ = some (.int .i64 a.n)
  c5 : W.cell? ⟨g, o + 5, none⟩ = some (.string a.x)
def RowC (W : World) (v : Value) (g n : Nat) (A : Nat → Tv) : Prop :=
  ∃ pa cap, v = .slice pa n cap ∧ (0 < n → pa = some ⟨g, 0, none⟩ ∧ n ≤ cap) ∧ ∀ i, i < n → Cel W g (i * 6) (A i)
theorem Cel.block {W W' : World} {g o : Nat} {a : Tv} (h : Cel W g o a) (hb : W'.heap[g]? = W.heap[g]?) : Cel W' g o a := by
  have e : ∀ j, W'.cell? ⟨g, j, none⟩ = W.cell? ⟨g, j, none⟩ := fun j => World.cell?_of_block hb
  exact ⟨by rw [e]; exact h.c0, by rw [e]; exact h.c1, by rw [e]; exact h.c2, by rw [e]; exact h.c3, by rw [e]; exact h.c4, by rw [e]; exact h.c5⟩
theorem RowC.block {W W' : World} {v : Value} {g n : Nat} {A : Nat → Tv} (h : RowC W v g n A) (hb : W'.heap[g]? = W.heap[g]?) : RowC W' v g n A := by
  obtain ⟨pa, cap, h1, h2, h3⟩ := h
  exact ⟨pa, cap, h1, h2, fun i hi => (h3 i hi).block hb⟩
theorem Cel.lt {W : World} {g o : Nat} {a : Tv} (h : Cel W g o a) : g < W.heap.size := by
  have := h.c0
  exact Rd.lt_of_cell this
set_option maxRecDepth 100000 in
set_option maxHeartbeats 4000000 in
theorem eq_toks {va vb : Value} {ga gb n : Nat} {A : Nat → Tv} (w : World) (ha : RowC w va ga n A) (hb : RowC w vb gb n A) (hn : n ≤ 65536) :
    Calls Tryd.prog 17 #[va, vb] w fun e w' => e = .returned (.bool true) ∧ Below w.heap.size w w' := by
  obtain ⟨pa, ca, rfl, ha2, ha3⟩ := ha
  obtain ⟨pb, cb, rfl, hb2, hb3⟩ := hb
  have HA : Hid ((0 < n → pa = some ⟨ga, 0, none⟩ ∧ n ≤ ca) ∧ (0 < n → pb = some ⟨gb, 0, none⟩ ∧ n ≤ cb)) := (⟨ha2, hb2⟩ : _ ∧ _)
  have HR : Hid ((∀ i, i < n → Cel w ga (i * 6) (A i)) ∧ (∀ i, i < n → Cel w gb (i * 6) (A i))) := (⟨ha3, hb3⟩ : _ ∧ _)
  have hnI : (n : Int) ≤ 65536 := by omega
  clear ha2 ha3 hb2 hb3 hn
  go_enter Tryd.func17, Tryd.ntmps17
  go_wp2_with fail
  go_loopw [5] (fun s5 wr => ∃ i : Nat, s5 = .int .i64 (i : Int) ∧ i ≤ n ∧ Hid (Below w.heap.size w wr)) (fun s5 _ => n - (intOf s5).toNat)
  case atStart => exact ⟨0, rfl, Nat.zero_le _, Below.refl _ _⟩
  case round =>
    obtain ⟨i, rfl, hin, HB⟩ := hrel
    rcases Nat.lt_or_ge i n with hi | hi
    · obtain ⟨⟨rfl, hca⟩, ⟨rfl, hcb⟩⟩ : (pa = some ⟨ga, 0, none⟩ ∧ n ≤ ca) ∧ (pb = some ⟨gb, 0, none⟩ ∧ n ≤ cb) := ⟨HA.1 (by omega), HA.2 (by omega)⟩
      have hiI : (i : Int) < (n : Int) := by omega
      have ra := (show (∀ i, i < n → Cel w ga (i * 6) (A i)) ∧ _ from HR).1 i hi
      have rb := (show (∀ i, i < n → Cel w ga (i * 6) (A i)) ∧ (∀ i, i < n → Cel w gb (i * 6) (A i)) from HR).2 i hi
      have qa := ra.block (HB.block _ ra.lt)
      have qb := rb.block (HB.block _ rb.lt)
      have a0 := qa.c0
      have a1 := qa.c1
      have a2 := qa.c2
      have a3 := qa.c3
      have a4 := qa.c4
      have a5 := qa.c5
      have b0 := qb.c0
      have b1 := qb.c1
      have b2 := qb.c2
      have b3 := qb.c3
      have b4 := qb.c4
      have b5 := qb.c5
      have heq := fun W => eq_tok (A i).k (A i).f (A i).t (A i).l (A i).n (A i).x W
      have hla := qa.lt
      have hlb := qb.lt
      clear qa qb ra rb HA HR hin
      generalize (A i).k = xk at *
      generalize (A i).f = xf at *
      generalize (A i).t = xt at *
      generalize (A i).l = xl at *
      generalize (A i).n = xn at *
      generalize (A i).x = xx at *
      have hkeep : ∀ (W0 W' : World), Below W0.heap.size W0 W' → W0.heap = wr.heap → (W'.cell? ⟨ga, i * 6, none⟩ = some (.int .i64 xk) ∧ W'.cell? ⟨ga, i * 6 + 1, none⟩ = some (.int .i64 xf) ∧ W'.cell? ⟨ga, i * 6 + 2, none⟩ = some (.int .i64 xt) ∧ W'.cell? ⟨ga, i * 6 + 3, none⟩ = some (.int .i64 xl) ∧ W'.cell? ⟨ga, i * 6 + 4, none⟩ = some (.int .i64 xn) ∧ W'.cell? ⟨ga, i * 6 + 5, none⟩ = some (.string xx) ∧ W'.cell? ⟨gb, i * 6, none⟩ = some (.int .i64 xk) ∧ W'.cell? ⟨gb, i * 6 + 1, none⟩ = some (.int .i64 xf) ∧ W'.cell? ⟨gb, i * 6 + 2, none⟩ = some (.int .i64 xt) ∧ W'.cell? ⟨gb, i * 6 + 3, none⟩ = some (.int .i64 xl) ∧ W'.cell? ⟨gb, i * 6 + 4, none⟩ = some (.int .i64 xn) ∧ W'.cell? ⟨gb, i * 6 + 5, none⟩ = some (.string xx)) := by
        intro W0 W' hb he
        have ea : ∀ j, W'.cell? ⟨ga, j, none⟩ = wr.cell? ⟨ga, j, none⟩ := fun j => World.cell?_of_block (by rw [hb.block ga (by rw [he]; exact hla), he])
        have eb : ∀ j, W'.cell? ⟨gb, j, none⟩ = wr.cell? ⟨gb, j, none⟩ := fun j => World.cell?_of_block (by rw [hb.block gb (by rw [he]; exact hlb), he])
        simp only [ea, eb]
        exact ⟨a0, a1, a2, a3, a4, a5, b0, b1, b2, b3, b4, b5⟩
      have HKEEP : Hid (∀ (W0 W' : World), Below W0.heap.size W0 W' → W0.heap = wr.heap → (W'.cell? ⟨ga, i * 6, none⟩ = some (.int .i64 xk) ∧ W'.cell? ⟨ga, i * 6 + 1, none⟩ = some (.int .i64 xf) ∧ W'.cell? ⟨ga, i * 6 + 2, none⟩ = some (.int .i64 xt) ∧ W'.cell? ⟨ga, i * 6 + 3, none⟩ = some (.int .i64 xl) ∧ W'.cell? ⟨ga, i * 6 + 4, none⟩ = some (.int .i64 xn) ∧ W'.cell? ⟨ga, i * 6 + 5, none⟩ = some (.string xx) ∧ W'.cell? ⟨gb, i * 6, none⟩ = some (.int .i64 xk) ∧ W'.cell? ⟨gb, i * 6 + 1, none⟩ = some (.int .i64 xf) ∧ W'.cell? ⟨gb, i * 6 + 2, none⟩ = some (.int .i64 xt) ∧ W'.cell? ⟨gb, i * 6 + 3, none⟩ = some (.int .i64 xl) ∧ W'.cell? ⟨gb, i * 6 + 4, none⟩ = some (.int .i64 xn) ∧ W'.cell? ⟨gb, i * 6 + 5, none⟩ = some (.string xx))) := hkeep
      have HB2 : Hid (∀ (W0 W' : World), Below W0.heap.size W0 W' → (Below w.heap.size w wr → Below w.heap.size w W0) → Below w.heap.size w W') := (fun W0 W' h1 h2 => (h2 HB).trans (h1.mono (h2 HB).size) : ∀ (W0 W' : World), Below W0.heap.size W0 W' → (Below w.heap.size w wr → Below w.heap.size w W0) → Below w.heap.size w W')
      clear hkeep hla hlb
      go_wp2_with fail
      go_region_held_law (fun W' => W'.cell? ⟨ga, i * 6, none⟩ = some (.int .i64 xk) ∧ W'.cell? ⟨ga, i * 6 + 1, none⟩ = some (.int .i64 xf) ∧ W'.cell? ⟨ga, i * 6 + 2, none⟩ = some (.int .i64 xt) ∧ W'.cell? ⟨ga, i * 6 + 3, none⟩ = some (.int .i64 xl) ∧ W'.cell? ⟨ga, i * 6 + 4, none⟩ = some (.int .i64 xn) ∧ W'.cell? ⟨ga, i * 6 + 5, none⟩ = some (.string xx) ∧ W'.cell? ⟨gb, i * 6, none⟩ = some (.int .i64 xk) ∧ W'.cell? ⟨gb, i * 6 + 1, none⟩ = some (.int .i64 xf) ∧ W'.cell? ⟨gb, i * 6 + 2, none⟩ = some (.int .i64 xt) ∧ W'.cell? ⟨gb, i * 6 + 3, none⟩ = some (.int .i64 xl) ∧ W'.cell? ⟨gb, i * 6 + 4, none⟩ = some (.int .i64 xn) ∧ W'.cell? ⟨gb, i * 6 + 5, none⟩ = some (.string xx)) (first | exact ⟨a0, a1, a2, a3, a4, a5, b0, b1, b2, b3, b4, b5⟩ | exact (show ∀ (W0 W' : World), _ from HKEEP) _ _ hb5 rfl) ((go_at_call 42; refine (heq _).mono ?_; rintro e w5 ⟨rfl, hb5⟩))
      all_goals
        have HB5 : Hid (Below w.heap.size w w5) := (show ∀ (W0 W' : World), Below W0.heap.size W0 W' → (Below w.heap.size w wr → Below w.heap.size w W0) → Below w.heap.size w W' from HB2) _ _ hb5 (fun h => ⟨h.os, h.tape, h.output, h.size, h.block⟩)
        clear HB HB2 HKEEP hb5 a0 a1 a2 a3 a4 a5 b0 b1 b2 b3 b4 b5
        go_wp2_with fail
        go_roundw
        case rel => exact ⟨i + 1, by go_num, by omega, HB5⟩
        case measure => simp [intOf]; omega
    · obtain rfl : i = n := by omega
      clear HA HR
      go_wp2_with fail
      go_ret
      exact ⟨rfl, HB⟩
end Go.Proofs.YtogenhnonjkanaaDoor
