import Derived.Test.YtfpidccjcemcjaaUbc
import Derived.Test.YtfpidccjcemcjaaVaw
import Derived.Deep.CutBlock
import Derived.Test.YtfpidccjcemcjaaUbd
import Derived.Deep.RegionHeldLaw
import Derived.Test.YtfpidccjcemcjaaReg
import Derived.Test.YtfpidccjcemcjaaUhz
import Derived.Deep.CutRange
namespace Go.Proofs.Ytfpidccjcemcjaa
open Go.ChangeShapes Go.WideShapes Go.ChangeAt Go.RowKit
set_option linter.unusedVariables false
set_option maxRecDepth 100000
theorem conv_one (W : World) (c : UInt8) : (convert 104 9 (.slice (some ⟨W.heap.size, 0, none⟩) 1 1)).run Try.prog (W.alloc (.cells #[.int .u8 (c.toNat : Int)] 5)) = .ok (.string ⟨#[c]⟩) (W.alloc (.cells #[.int .u8 (c.toNat : Int)] 5)) := by
  have := run_convert_bytes_back (P := Try.prog) (W.alloc (.cells #[.int .u8 (c.toNat : Int)] 5)) 104 9 5 ⟨W.heap.size, 0, none⟩ 1 [c] Try.underlying104 Try.underlying5 Try.underlying9 (fun j hj => by
    obtain rfl : j = 0 := by simp at hj; omega
    simp [Addr.add])
  simpa using this
/-- the digits of a mark's text -/
def mtl (k : Nat) (out : ByteArray) : ByteArray := if h : k = 0 then out else mtl (k / 10) (⟨#[UInt8.ofNat (48 + k % 10)]⟩ ++ out)
termination_by k
decreasing_by omega
set_option maxRecDepth 100000 in
set_option maxHeartbeats 4000000 in
theorem mark_text (k : Nat) (hk : 1 ≤ k) (hk2 : (k : Int) ≤ 1000000000) (w : World) : Calls Try.prog 72 #[.int .i64 (k : Int)] w fun e w' => e = .returned (.string (⟨#[109]⟩ ++ mtl k ⟨#[]⟩)) ∧ Below w.heap.size w w' := by
  have hk0 : ¬ (k : Int) ≤ 0 := by omega
  go_enter Try.func72, Try.ntmps72
  go_upto_block 0 with fail
  go_wp2_with fail
  go_loopw [0, 3] (fun s0 s3 wr => ∃ (j : Nat) (out : ByteArray), s0 = .int .i64 (j : Int) ∧ s3 = .string out ∧ j + out.size ≤ k ∧ Hid (mtl j out = mtl k ⟨#[]⟩ ∧ Below w.heap.size w wr)) (fun s0 _ _ => (intOf s0).toNat)
  case atStart => exact ⟨k, ⟨#[]⟩, rfl, rfl, (by show k + 0 ≤ k; omega), (⟨rfl, Below.refl _ _⟩ : _ ∧ _)⟩
  case round =>
    obtain ⟨j, out, rfl, rfl, hj, HB⟩ := hrel
    have hsz : ¬ 9223372036854775807 < 1 + out.size := by omega
    by_cases h0 : j = 0
    · subst h0
      have hB := (show mtl 0 out = mtl k ⟨#[]⟩ ∧ Below w.heap.size w wr from HB)
      have e : out = mtl k ⟨#[]⟩ := by rw [← hB.1]; unfold mtl; rfl
      have HB2 : Hid (out = mtl k ⟨#[]⟩ ∧ Below w.heap.size w wr) := (⟨e, hB.2⟩ : _ ∧ _)
      clear HB hB e
      go_wp2_with fail
      go_ret
      rw [show out = mtl k ⟨#[]⟩ from HB2.1]
      exact ⟨rfl, HB2.2⟩
    · have hj0 : (0 : Int) < (j : Int) := by omega
      have hd0 : (0 : Int) ≤ ((j % 10 : Nat) : Int) := by omega
      have hd1 : ((j % 10 : Nat) : Int) < 10 := by omega
      have hq : Int.tmod (j : Int) 10 = ((j % 10 : Nat) : Int) := rfl
      have hq2 : Int.tdiv (j : Int) 10 = ((j / 10 : Nat) : Int) := rfl
      have hcv := conv_one wr (UInt8.ofNat (48 + j % 10))
      have hcn : ((UInt8.ofNat (48 + j % 10)).toNat : Int) = 48 + ((j % 10 : Nat) : Int) := by
        have : (UInt8.ofNat (48 + j % 10)).toNat = 48 + j % 10 := by
          rw [UInt8.toNat_ofNat']; omega
        omega
      rw [hcn] at hcv
      have hstep : mtl j out = mtl (j / 10) (⟨#[UInt8.ofNat (48 + j % 10)]⟩ ++ out) := by rw [mtl, dif_neg h0]
      have HB1 : Hid (mtl (j / 10) (⟨#[UInt8.ofNat (48 + j % 10)]⟩ ++ out) = mtl k ⟨#[]⟩ ∧ Below w.heap.size w (wr.alloc (.cells #[.int .u8 (48 + ((j % 10 : Nat) : Int))] 5))) :=
        (⟨hstep.symm.trans HB.1, HB.2.alloc HB.2.size _⟩ : _ ∧ _)
      clear HB hstep hcn
      generalize UInt8.ofNat (48 + j % 10) = c at *
      generalize ((j % 10 : Nat) : Int) = r at *
      generalize hjq : j / 10 = jq at *
      go_wp2_with fail
      go_roundw
      case rel => exact ⟨jq, ⟨#[c]⟩ ++ out, rfl, rfl, by rw [ByteArray.size_append]; show jq + (1 + out.size) ≤ k; omega, HB1⟩
      case measure => simp [intOf]; omega
/-- the text of a mark -/
def mtx (k : Nat) : ByteArray := ⟨#[109]⟩ ++ mtl k ⟨#[]⟩
/-- all is kept but the cells lo to hi of block g -/
structure Kg (g lo hi : Nat) (a w : World) : Prop where
  os : w.os = a.os
  output : w.output = a.output
  size : a.heap.size ≤ w.heap.size
  block : ∀ k, k < a.heap.size → k ≠ g → w.heap[k]? = a.heap[k]?
  cell : ∀ o, ¬ (lo ≤ o ∧ o < hi) → w.cell? ⟨g, o, none⟩ = a.cell? ⟨g, o, none⟩
  fz : ∀ o, w.frozen? ⟨g, o, none⟩ = a.frozen? ⟨g, o, none⟩
theorem Kg.refl (g lo hi : Nat) (a : World) : Kg g lo hi a a := ⟨rfl, rfl, Nat.le_refl _, fun _ _ _ => rfl, fun _ _ => rfl, fun _ => rfl⟩
theorem Kg.set {g lo hi : Nat} {a w : World} (h : Kg g lo hi a w) (o : Nat) (h1 : lo ≤ o) (h2 : o < hi) (v : Value) : Kg g lo hi a (w.setCell ⟨g, o, none⟩ v) :=
  ⟨h.os, h.output, by simpa using h.size, fun k hk hg => (Below.heap_setCell w _ v k hg).trans (h.block k hk hg),
    fun o' ho => (set_ne _ _ _ _ _ (fun e => ho (by omega))).trans (h.cell o' ho), fun o' => (by simp : (w.setCell ⟨g, o, none⟩ v).frozen? ⟨g, o', none⟩ = w.frozen? ⟨g, o', none⟩).trans (h.fz o')⟩
theorem Kg.kq {g lo hi : Nat} {a w w' : World} (h : Kg g lo hi a w) (q : Kq w w') (hg : g < a.heap.size) : Kg g lo hi a w' := by
  have hgw : w'.heap[g]? = w.heap[g]? := q.block g (Nat.lt_of_lt_of_le hg h.size)
  exact ⟨q.os.trans h.os, q.output.trans h.output, Nat.le_trans h.size q.size, fun k hk hn => (q.block k (Nat.lt_of_lt_of_le hk h.size)).trans (h.block k hk hn),
    fun o ho => (World.cell?_of_block hgw).trans (h.cell o ho), fun o => (q.frozen (Nat.lt_of_lt_of_le hg h.size)).trans (h.fz o)⟩
theorem cp_set0 {W : World} {g o : Nat} {p : Pv} (h : Cp W ⟨g, o, none⟩ p) (v : Int) : Cp (W.setCell ⟨g, o, none⟩ (.int .i64 v)) ⟨g, o, none⟩ ⟨⟨v, p.a.m, p.a.g, p.a.x, p.a.r⟩, ⟨p.b.k, p.b.m, p.b.g, p.b.x, p.b.r⟩, p.t⟩ := by
  obtain ⟨c0, c1, c2, c3, c4, c5, c6, c7, c8, c9, c10⟩ := h
  dsimp only at c1 c2 c3 c4 c5 c6 c7 c8 c9 c10
  refine ⟨?_, ?_, ?_, ?_, ?_, ?_, ?_, ?_, ?_, ?_, ?_⟩ <;> try dsimp only
  · exact set_eq _ _ _ _ _ c0
  · exact (set_ne _ _ _ _ _ (by omega)).trans c1
  · exact (set_ne _ _ _ _ _ (by omega)).trans c2
  · exact (set_ne _ _ _ _ _ (by omega)).trans c3
  · exact (set_ne _ _ _ _ _ (by omega)).trans c4
  · exact (set_ne _ _ _ _ _ (by omega)).trans c5
  · exact (set_ne _ _ _ _ _ (by omega)).trans c6
  · exact (set_ne _ _ _ _ _ (by omega)).trans c7
  · exact (set_ne _ _ _ _ _ (by omega)).trans c8
  · exact (set_ne _ _ _ _ _ (by omega)).trans c9
  · exact (set_ne _ _ _ _ _ (by omega)).trans c10
theorem cp_set1 {W : World} {g o : Nat} {p : Pv} (h : Cp W ⟨g, o, none⟩ p) (v : Int) : Cp (W.setCell ⟨g, o + 1, none⟩ (.int .i64 v)) ⟨g, o, none⟩ ⟨⟨p.a.k, v, p.a.g, p.a.x, p.a.r⟩, ⟨p.b.k, p.b.m, p.b.g, p.b.x, p.b.r⟩, p.t⟩ := by
  obtain ⟨c0, c1, c2, c3, c4, c5, c6, c7, c8, c9, c10⟩ := h
  dsimp only at c1 c2 c3 c4 c5 c6 c7 c8 c9 c10
  refine ⟨?_, ?_, ?_, ?_, ?_, ?_, ?_, ?_, ?_, ?_, ?_⟩ <;> try dsimp only
  · exact (set_ne _ _ _ _ _ (by omega)).trans c0
  · exact set_eq _ _ _ _ _ c1
  · exact (set_ne _ _ _ _ _ (by omega)).trans c2
  · exact (set_ne _ _ _ _ _ (by omega)).trans c3
  · exact (set_ne _ _ _ _ _ (by omega)).trans c4
  · exact (set_ne _ _ _ _ _ (by omega)).trans c5
  · exact (set_ne _ _ _ _ _ (by omega)).trans c6
  · exact (set_ne _ _ _ _ _ (by omega)).trans c7
  · exact (set_ne _ _ _ _ _ (by omega)).trans c8
  · exact (set_ne _ _ _ _ _ (by omega)).trans c9
  · exact (set_ne _ _ _ _ _ (by omega)).trans c10
theorem cp_set2 {W : World} {g o : Nat} {p : Pv} (h : Cp W ⟨g, o, none⟩ p) (v : Nat) : Cp (W.setCell ⟨g, o + 2, none⟩ (.float .f64 v)) ⟨g, o, none⟩ ⟨⟨p.a.k, p.a.m, v, p.a.x, p.a.r⟩, ⟨p.b.k, p.b.m, p.b.g, p.b.x, p.b.r⟩, p.t⟩ := by
  obtain ⟨c0, c1, c2, c3, c4, c5, c6, c7, c8, c9, c10⟩ := h
  dsimp only at c1 c2 c3 c4 c5 c6 c7 c8 c9 c10
  refine ⟨?_, ?_, ?_, ?_, ?_, ?_, ?_, ?_, ?_, ?_, ?_⟩ <;> try dsimp only
  · exact (set_ne _ _ _ _ _ (by omega)).trans c0
  · exact (set_ne _ _ _ _ _ (by omega)).trans c1
  · exact set_eq _ _ _ _ _ c2
  · exact (set_ne _ _ _ _ _ (by omega)).trans c3
  · exact (set_ne _ _ _ _ _ (by omega)).trans c4
  · exact (set_ne _ _ _ _ _ (by omega)).trans c5
  · exact (set_ne _ _ _ _ _ (by omega)).trans c6
  · exact (set_ne _ _ _ _ _ (by omega)).trans c7
  · exact (set_ne _ _ _ _ _ (by omega)).trans c8
  · exact (set_ne _ _ _ _ _ (by omega)).trans c9
  · exact (set_ne _ _ _ _ _ (by omega)).trans c10
theorem cp_set3 {W : World} {g o : Nat} {p : Pv} (h : Cp W ⟨g, o, none⟩ p) (v : ByteArray) : Cp (W.setCell ⟨g, o + 3, none⟩ (.string v)) ⟨g, o, none⟩ ⟨⟨p.a.k, p.a.m, p.a.g, v, p.a.r⟩, ⟨p.b.k, p.b.m, p.b.g, p.b.x, p.b.r⟩, p.t⟩ := by
  obtain ⟨c0, c1, c2, c3, c4, c5, c6, c7, c8, c9, c10⟩ := h
  dsimp only at c1 c2 c3 c4 c5 c6 c7 c8 c9 c10
  refine ⟨?_, ?_, ?_, ?_, ?_, ?_, ?_, ?_, ?_, ?_, ?_⟩ <;> try dsimp only
  · exact (set_ne _ _ _ _ _ (by omega)).trans c0
  · exact (set_ne _ _ _ _ _ (by omega)).trans c1
  · exact (set_ne _ _ _ _ _ (by omega)).trans c2
  · exact set_eq _ _ _ _ _ c3
  · exact (set_ne _ _ _ _ _ (by omega)).trans c4
  · exact (set_ne _ _ _ _ _ (by omega)).trans c5
  · exact (set_ne _ _ _ _ _ (by omega)).trans c6
  · exact (set_ne _ _ _ _ _ (by omega)).trans c7
  · exact (set_ne _ _ _ _ _ (by omega)).trans c8
  · exact (set_ne _ _ _ _ _ (by omega)).trans c9
  · exact (set_ne _ _ _ _ _ (by omega)).trans c10
theorem cp_set4 {W : World} {g o : Nat} {p : Pv} (h : Cp W ⟨g, o, none⟩ p) (v : Int) : Cp (W.setCell ⟨g, o + 4, none⟩ (.int .i64 v)) ⟨g, o, none⟩ ⟨⟨p.a.k, p.a.m, p.a.g, p.a.x, v⟩, ⟨p.b.k, p.b.m, p.b.g, p.b.x, p.b.r⟩, p.t⟩ := by
  obtain ⟨c0, c1, c2, c3, c4, c5, c6, c7, c8, c9, c10⟩ := h
  dsimp only at c1 c2 c3 c4 c5 c6 c7 c8 c9 c10
  refine ⟨?_, ?_, ?_, ?_, ?_, ?_, ?_, ?_, ?_, ?_, ?_⟩ <;> try dsimp only
  · exact (set_ne _ _ _ _ _ (by omega)).trans c0
  · exact (set_ne _ _ _ _ _ (by omega)).trans c1
  · exact (set_ne _ _ _ _ _ (by omega)).trans c2
  · exact (set_ne _ _ _ _ _ (by omega)).trans c3
  · exact set_eq _ _ _ _ _ c4
  · exact (set_ne _ _ _ _ _ (by omega)).trans c5
  · exact (set_ne _ _ _ _ _ (by omega)).trans c6
  · exact (set_ne _ _ _ _ _ (by omega)).trans c7
  · exact (set_ne _ _ _ _ _ (by omega)).trans c8
  · exact (set_ne _ _ _ _ _ (by omega)).trans c9
  · exact (set_ne _ _ _ _ _ (by omega)).trans c10
theorem cp_set5 {W : World} {g o : Nat} {p : Pv} (h : Cp W ⟨g, o, none⟩ p) (v : Int) : Cp (W.setCell ⟨g, o + 5, none⟩ (.int .i64 v)) ⟨g, o, none⟩ ⟨⟨p.a.k, p.a.m, p.a.g, p.a.x, p.a.r⟩, ⟨v, p.b.m, p.b.g, p.b.x, p.b.r⟩, p.t⟩ := by
  obtain ⟨c0, c1, c2, c3, c4, c5, c6, c7, c8, c9, c10⟩ := h
  dsimp only at c1 c2 c3 c4 c5 c6 c7 c8 c9 c10
  refine ⟨?_, ?_, ?_, ?_, ?_, ?_, ?_, ?_, ?_, ?_, ?_⟩ <;> try dsimp only
  · exact (set_ne _ _ _ _ _ (by omega)).trans c0
  · exact (set_ne _ _ _ _ _ (by omega)).trans c1
  · exact (set_ne _ _ _ _ _ (by omega)).trans c2
  · exact (set_ne _ _ _ _ _ (by omega)).trans c3
  · exact (set_ne _ _ _ _ _ (by omega)).trans c4
  · exact set_eq _ _ _ _ _ c5
  · exact (set_ne _ _ _ _ _ (by omega)).trans c6
  · exact (set_ne _ _ _ _ _ (by omega)).trans c7
  · exact (set_ne _ _ _ _ _ (by omega)).trans c8
  · exact (set_ne _ _ _ _ _ (by omega)).trans c9
  · exact (set_ne _ _ _ _ _ (by omega)).trans c10
theorem cp_set6 {W : World} {g o : Nat} {p : Pv} (h : Cp W ⟨g, o, none⟩ p) (v : Int) : Cp (W.setCell ⟨g, o + 6, none⟩ (.int .i64 v)) ⟨g, o, none⟩ ⟨⟨p.a.k, p.a.m, p.a.g, p.a.x, p.a.r⟩, ⟨p.b.k, v, p.b.g, p.b.x, p.b.r⟩, p.t⟩ := by
  obtain ⟨c0, c1, c2, c3, c4, c5, c6, c7, c8, c9, c10⟩ := h
  dsimp only at c1 c2 c3 c4 c5 c6 c7 c8 c9 c10
  refine ⟨?_, ?_, ?_, ?_, ?_, ?_, ?_, ?_, ?_, ?_, ?_⟩ <;> try dsimp only
  · exact (set_ne _ _ _ _ _ (by omega)).trans c0
  · exact (set_ne _ _ _ _ _ (by omega)).trans c1
  · exact (set_ne _ _ _ _ _ (by omega)).trans c2
  · exact (set_ne _ _ _ _ _ (by omega)).trans c3
  · exact (set_ne _ _ _ _ _ (by omega)).trans c4
  · exact (set_ne _ _ _ _ _ (by omega)).trans c5
  · exact set_eq _ _ _ _ _ c6
  · exact (set_ne _ _ _ _ _ (by omega)).trans c7
  · exact (set_ne _ _ _ _ _ (by omega)).trans c8
  · exact (set_ne _ _ _ _ _ (by omega)).trans c9
  · exact (set_ne _ _ _ _ _ (by omega)).trans c10
theorem cp_set7 {W : World} {g o : Nat} {p : Pv} (h : Cp W ⟨g, o, none⟩ p) (v : Nat) : Cp (W.setCell ⟨g, o + 7, none⟩ (.float .f64 v)) ⟨g, o, none⟩ ⟨⟨p.a.k, p.a.m, p.a.g, p.a.x, p.a.r⟩, ⟨p.b.k, p.b.m, v, p.b.x, p.b.r⟩, p.t⟩ := by
  obtain ⟨c0, c1, c2, c3, c4, c5, c6, c7, c8, c9, c10⟩ := h
  dsimp only at c1 c2 c3 c4 c5 c6 c7 c8 c9 c10
  refine ⟨?_, ?_, ?_, ?_, ?_, ?_, ?_, ?_, ?_, ?_, ?_⟩ <;> try dsimp only
  · exact (set_ne _ _ _ _ _ (by omega)).trans c0
  · exact (set_ne _ _ _ _ _ (by omega)).trans c1
  · exact (set_ne _ _ _ _ _ (by omega)).trans c2
  · exact (set_ne _ _ _ _ _ (by omega)).trans c3
  · exact (set_ne _ _ _ _ _ (by omega)).trans c4
  · exact (set_ne _ _ _ _ _ (by omega)).trans c5
  · exact (set_ne _ _ _ _ _ (by omega)).trans c6
  · exact set_eq _ _ _ _ _ c7
  · exact (set_ne _ _ _ _ _ (by omega)).trans c8
  · exact (set_ne _ _ _ _ _ (by omega)).trans c9
  · exact (set_ne _ _ _ _ _ (by omega)).trans c10
theorem cp_set8 {W : World} {g o : Nat} {p : Pv} (h : Cp W ⟨g, o, none⟩ p) (v : ByteArray) : Cp (W.setCell ⟨g, o + 8, none⟩ (.string v)) ⟨g, o, none⟩ ⟨⟨p.a.k, p.a.m, p.a.g, p.a.x, p.a.r⟩, ⟨p.b.k, p.b.m, p.b.g, v, p.b.r⟩, p.t⟩ := by
  obtain ⟨c0, c1, c2, c3, c4, c5, c6, c7, c8, c9, c10⟩ := h
  dsimp only at c1 c2 c3 c4 c5 c6 c7 c8 c9 c10
  refine ⟨?_, ?_, ?_, ?_, ?_, ?_, ?_, ?_, ?_, ?_, ?_⟩ <;> try dsimp only
  · exact (set_ne _ _ _ _ _ (by omega)).trans c0
  · exact (set_ne _ _ _ _ _ (by omega)).trans c1
  · exact (set_ne _ _ _ _ _ (by omega)).trans c2
  · exact (set_ne _ _ _ _ _ (by omega)).trans c3
  · exact (set_ne _ _ _ _ _ (by omega)).trans c4
  · exact (set_ne _ _ _ _ _ (by omega)).trans c5
  · exact (set_ne _ _ _ _ _ (by omega)).trans c6
  · exact (set_ne _ _ _ _ _ (by omega)).trans c7
  · exact set_eq _ _ _ _ _ c8
  · exact (set_ne _ _ _ _ _ (by omega)).trans c9
  · exact (set_ne _ _ _ _ _ (by omega)).trans c10
theorem cp_set9 {W : World} {g o : Nat} {p : Pv} (h : Cp W ⟨g, o, none⟩ p) (v : Int) : Cp (W.setCell ⟨g, o + 9, none⟩ (.int .i64 v)) ⟨g, o, none⟩ ⟨⟨p.a.k, p.a.m, p.a.g, p.a.x, p.a.r⟩, ⟨p.b.k, p.b.m, p.b.g, p.b.x, v⟩, p.t⟩ := by
  obtain ⟨c0, c1, c2, c3, c4, c5, c6, c7, c8, c9, c10⟩ := h
  dsimp only at c1 c2 c3 c4 c5 c6 c7 c8 c9 c10
  refine ⟨?_, ?_, ?_, ?_, ?_, ?_, ?_, ?_, ?_, ?_, ?_⟩ <;> try dsimp only
  · exact (set_ne _ _ _ _ _ (by omega)).trans c0
  · exact (set_ne _ _ _ _ _ (by omega)).trans c1
  · exact (set_ne _ _ _ _ _ (by omega)).trans c2
  · exact (set_ne _ _ _ _ _ (by omega)).trans c3
  · exact (set_ne _ _ _ _ _ (by omega)).trans c4
  · exact (set_ne _ _ _ _ _ (by omega)).trans c5
  · exact (set_ne _ _ _ _ _ (by omega)).trans c6
  · exact (set_ne _ _ _ _ _ (by omega)).trans c7
  · exact (set_ne _ _ _ _ _ (by omega)).trans c8
  · exact set_eq _ _ _ _ _ c9
  · exact (set_ne _ _ _ _ _ (by omega)).trans c10
theorem cp_set10 {W : World} {g o : Nat} {p : Pv} (h : Cp W ⟨g, o, none⟩ p) (v : Int) : Cp (W.setCell ⟨g, o + 10, none⟩ (.int .i64 v)) ⟨g, o, none⟩ ⟨⟨p.a.k, p.a.m, p.a.g, p.a.x, p.a.r⟩, ⟨p.b.k, p.b.m, p.b.g, p.b.x, p.b.r⟩, v⟩ := by
  obtain ⟨c0, c1, c2, c3, c4, c5, c6, c7, c8, c9, c10⟩ := h
  dsimp only at c1 c2 c3 c4 c5 c6 c7 c8 c9 c10
  refine ⟨?_, ?_, ?_, ?_, ?_, ?_, ?_, ?_, ?_, ?_, ?_⟩ <;> try dsimp only
  · exact (set_ne _ _ _ _ _ (by omega)).trans c0
  · exact (set_ne _ _ _ _ _ (by omega)).trans c1
  · exact (set_ne _ _ _ _ _ (by omega)).trans c2
  · exact (set_ne _ _ _ _ _ (by omega)).trans c3
  · exact (set_ne _ _ _ _ _ (by omega)).trans c4
  · exact (set_ne _ _ _ _ _ (by omega)).trans c5
  · exact (set_ne _ _ _ _ _ (by omega)).trans c6
  · exact (set_ne _ _ _ _ _ (by omega)).trans c7
  · exact (set_ne _ _ _ _ _ (by omega)).trans c8
  · exact (set_ne _ _ _ _ _ (by omega)).trans c9
  · exact set_eq _ _ _ _ _ c10
/-- the marks of pair number i -/
def mpk (k : Int) (X Y : ByteArray) : Pv := ⟨⟨k, k + 1, floatOfInt .f64 (k + 1 + 1), X, k + 1 + 1 + 1 + 1⟩, ⟨k + 1 + 1 + 1 + 1 + 1, k + 1 + 1 + 1 + 1 + 1 + 1, floatOfInt .f64 (k + 1 + 1 + 1 + 1 + 1 + 1 + 1), Y, k + 1 + 1 + 1 + 1 + 1 + 1 + 1 + 1 + 1⟩, k + 1 + 1 + 1 + 1 + 1 + 1 + 1 + 1 + 1 + 1⟩
def mpv (i : Nat) : Pv := mpk (1 + 11 * (i : Int)) (mtx (11 * i + 4)) (mtx (11 * i + 9))
/-- between two rounds of the marking -/
structure Mr (w : World) (g n : Nat) (F : Nat → Pv) (i : Nat) (W : World) : Prop where
  os : W.os = w.os
  output : W.output = w.output
  size : w.heap.size ≤ W.heap.size
  block : ∀ b, b < w.heap.size → b ≠ g → W.heap[b]? = w.heap[b]?
  don : ∀ j, j < i → Cp W ⟨g, j * 11, none⟩ (mpv j)
  rest : ∀ j, i ≤ j → j < n → Cp W ⟨g, j * 11, none⟩ (F j)
  fz : ∀ j, W.frozen? ⟨g, j, none⟩ = false
  gl : g < w.heap.size
theorem Mr.step {w W W' : World} {g n i : Nat} {F : Nat → Pv} (h : Mr w g n F i W) (hi : i < n) (k : Kg g (i * 11) (i * 11 + 11) W W') (hc : Cp W' ⟨g, i * 11, none⟩ (mpv i)) : Mr w g n F (i + 1) W' := by
  have far : ∀ j p, j ≠ i → Cp W ⟨g, j * 11, none⟩ p → Cp W' ⟨g, j * 11, none⟩ p := fun j p hj hp => by
    obtain ⟨c0, c1, c2, c3, c4, c5, c6, c7, c8, c9, c10⟩ := hp
    have e : ∀ c, c < 11 → W'.cell? ⟨g, j * 11 + c, none⟩ = W.cell? ⟨g, j * 11 + c, none⟩ := fun c hc => k.cell _ (by omega)
    exact ⟨(e 0 (by omega)).trans c0, (e 1 (by omega)).trans c1, (e 2 (by omega)).trans c2, (e 3 (by omega)).trans c3, (e 4 (by omega)).trans c4, (e 5 (by omega)).trans c5, (e 6 (by omega)).trans c6, (e 7 (by omega)).trans c7, (e 8 (by omega)).trans c8, (e 9 (by omega)).trans c9, (e 10 (by omega)).trans c10⟩
  refine ⟨k.os.trans h.os, k.output.trans h.output, Nat.le_trans h.size k.size, fun b hb hn => (k.block b (Nat.lt_of_lt_of_le hb h.size) hn).trans (h.block b hb hn), fun j hj => ?_, fun j h1 h2 => far j _ (by omega) (h.rest j (by omega) h2), fun j => (k.fz j).trans (h.fz j), h.gl⟩
  by_cases e : j = i
  · subst e; exact hc
  · exact far j _ e (h.don j (by omega))
theorem fI_self (z : Int) (h0 : 0 ≤ z) (h1 : z < 9007199254740992) : FloatKind.f64.format.order (floatOfInt .f64 z) (floatOfInt .f64 z) = some .eq := by
  show FloatKind.f64.format.order (FloatKind.f64.nearest z) (FloatKind.f64.nearest z) = some .eq
  rw [Flt.nearest_eq]
  obtain ⟨m, k, hr, _⟩ := Flt.int_float (decide (z < 0)) z.natAbs (by omega)
  rcases fl_self (Ieee.double.nearest (decide (z < 0)) z.natAbs 0) with q | q
  · exfalso
    simp only [Flt.f64_double] at q
    unfold Ieee.Format.order at q
    rw [hr, Flt.order_num] at q
    cases q
  · exact q
set_option maxHeartbeats 16000000 in
theorem mark_pairs {v : Value} {g n : Nat} {F : Nat → Pv} (w : World) (ha : OwnP w v g n F) (hn : n ≤ 1048576) (h0 : 0 < n) :
    Calls Try.prog 51 #[v, .int .i64 1] w fun e w' => e = .returned (.int .i64 (1 + 11 * (n : Int))) ∧ Mr w g n F n w' := by
  obtain ⟨pa, ca, rfl, ha2⟩ := ha.sl
  obtain ⟨rfl, hca⟩ := ha2 h0
  have HI0 : Hid (Mr w g n F 0 w) := (⟨rfl, rfl, Nat.le_refl _, fun _ _ _ => rfl, fun j hj => by omega, fun j _ hj => ha.ce j hj, ha.fz h0, (ha.ce 0 h0).lt⟩ : Mr w g n F 0 w)
  have hnI : (n : Int) ≤ 1048576 := by omega
  clear ha2 ha h0
  have hst : ∀ (a : Addr) (n : Nat) (m : Mode) (w : World), (store a (.float .f64 n) m).run Try.prog w = stored Try.prog w a (.float .f64 n) m := fun a n m w => run_store _ _ _ _ _ rfl
  go_enter Try.func51, Try.ntmps51
  go_wp2_with fail
  go_loopw [1, 5] (fun s1 s5 wr => ∃ i : Nat, s5 = .int .i64 (i : Int) ∧ s1 = .int .i64 (1 + 11 * (i : Int)) ∧ i ≤ n ∧ Hid (Mr w g n F i wr)) (fun _ s5 _ => n - (intOf s5).toNat)
  case atStart => exact ⟨0, rfl, rfl, Nat.zero_le _, HI0⟩
  case round =>
    clear HI0
    obtain ⟨i, rfl, rfl, hin, HI⟩ := hrel
    rcases Nat.lt_or_ge i n with hi | hi
    · have hI := (show Mr w g n F i wr from HI)
      have hiI : (i : Int) < (n : Int) := by omega
      obtain ⟨k, hk⟩ : ∃ k : Int, k = 1 + 11 * (i : Int) := ⟨_, rfl⟩
      have hX := fun W => mark_text (11 * i + 4) (by omega) (by omega) W
      have hY := fun W => mark_text (11 * i + 9) (by omega) (by omega) W
      rw [show ((11 * i + 4 : Nat) : Int) = k + 1 + 1 + 1 by omega] at hX
      rw [show ((11 * i + 9 : Nat) : Int) = k + 1 + 1 + 1 + 1 + 1 + 1 + 1 + 1 by omega] at hY
      have HMP : Hid (mpk k (⟨#[109]⟩ ++ mtl (11 * i + 4) ⟨#[]⟩) (⟨#[109]⟩ ++ mtl (11 * i + 9) ⟨#[]⟩) = mpv i) := by rw [hk]; rfl
      generalize (⟨#[109]⟩ ++ mtl (11 * i + 4) ⟨#[]⟩ : ByteArray) = X at hX HMP
      generalize (⟨#[109]⟩ ++ mtl (11 * i + 9) ⟨#[]⟩ : ByteArray) = Y at hY HMP
      have hk0 : 0 ≤ k := by omega
      have hk1 : k ≤ 100000000 := by omega
      have HC : Hid (Cp wr ⟨g, i * 11, none⟩ (F i) ∧ (∀ j, wr.frozen? ⟨g, j, none⟩ = false) ∧ g < wr.heap.size) := (⟨hI.rest i (Nat.le_refl _) hi, hI.fz, Nat.lt_of_lt_of_le hI.gl hI.size⟩ : _ ∧ _ ∧ _)
      have HST : Hid (∀ W', Kg g (i * 11) (i * 11 + 11) wr W' → Cp W' ⟨g, i * 11, none⟩ (mpv i) → Mr w g n F (i + 1) W') := (fun W' q h => hI.step hi q h : ∀ W', _)
      have HK : Hid (k = 1 + 11 * (i : Int)) := hk
      rw [← hk]
      clear hI HI hk hin
      obtain ⟨hc0, hfz, hgl⟩ := (show Cp wr ⟨g, i * 11, none⟩ (F i) ∧ (∀ j, wr.frozen? ⟨g, j, none⟩ = false) ∧ g < wr.heap.size from HC)
      obtain ⟨d0, d1, d2, d3, d4, d5, d6, d7, d8, d9, d10⟩ := id hc0
      dsimp only at d0 d1 d2 d3 d4 d5 d6 d7 d8 d9 d10
      go_wp2_with fail
      clear d0 d1 d2 d3 d4 d5 d6 d7 d8 d9 d10
      obtain ⟨W3, hW3⟩ : ∃ W3, W3 = (((wr.setCell ⟨g, i * 11, none⟩ (.int .i64 (k))).setCell ⟨g, i * 11 + 1, none⟩ (.int .i64 (k + 1))).setCell ⟨g, i * 11 + 2, none⟩ (.float .f64 (floatOfInt .f64 (k + 1 + 1)))) := ⟨_, rfl⟩
      rw [← hW3]
      refine (hX _).mono ?_
      rintro e w6 ⟨rfl, hb6⟩
      have c3 := cp_set2 (cp_set1 (cp_set0 hc0 (k)) (k + 1)) (floatOfInt .f64 (k + 1 + 1))
      rw [← hW3] at c3
      have g3 : Kg g (i * 11) (i * 11 + 11) wr W3 := by rw [hW3]; exact (((Kg.refl _ _ _ _).set (i * 11) (by omega) (by omega) _).set (i * 11 + 1) (by omega) (by omega) _).set (i * 11 + 2) (by omega) (by omega) _
      have q6 := Kq.of_below hb6
      have c6 := c3.kq q6
      have g6 := g3.kq q6 hgl
      have f6 : ∀ j, w6.frozen? ⟨g, j, none⟩ = false := fun j => (g6.fz j).trans (hfz j)
      have HC6 : Hid (Cp w6 ⟨g, i * 11, none⟩ ⟨⟨k, k + 1, floatOfInt .f64 (k + 1 + 1), (F i).a.x, (F i).a.r⟩, ⟨(F i).b.k, (F i).b.m, (F i).b.g, (F i).b.x, (F i).b.r⟩, (F i).t⟩ ∧ Kg g (i * 11) (i * 11 + 11) wr w6) := (⟨c6, g6⟩ : _ ∧ _)
      obtain ⟨d0, d1, d2, d3, d4, d5, d6, d7, d8, d9, d10⟩ := c6
      dsimp only at d0 d1 d2 d3 d4 d5 d6 d7 d8 d9 d10
      clear c3 g3 q6 g6 hb6 hW3 hX hfz
      go_wp2_with fail
      clear d0 d1 d2 d3 d4 d5 d6 d7 d8 d9 d10
      obtain ⟨W8, hW8⟩ : ∃ W8, W8 = (((((w6.setCell ⟨g, i * 11 + 3, none⟩ (.string (X))).setCell ⟨g, i * 11 + 4, none⟩ (.int .i64 (k + 1 + 1 + 1 + 1))).setCell ⟨g, i * 11 + 5, none⟩ (.int .i64 (k + 1 + 1 + 1 + 1 + 1))).setCell ⟨g, i * 11 + 6, none⟩ (.int .i64 (k + 1 + 1 + 1 + 1 + 1 + 1))).setCell ⟨g, i * 11 + 7, none⟩ (.float .f64 (floatOfInt .f64 (k + 1 + 1 + 1 + 1 + 1 + 1 + 1)))) := ⟨_, rfl⟩
      rw [← hW8]
      refine (hY _).mono ?_
      rintro e w7 ⟨rfl, hb7⟩
      have hC6 := (show Cp w6 ⟨g, i * 11, none⟩ ⟨⟨k, k + 1, floatOfInt .f64 (k + 1 + 1), (F i).a.x, (F i).a.r⟩, ⟨(F i).b.k, (F i).b.m, (F i).b.g, (F i).b.x, (F i).b.r⟩, (F i).t⟩ ∧ Kg g (i * 11) (i * 11 + 11) wr w6 from HC6)
      have c8 := cp_set7 (cp_set6 (cp_set5 (cp_set4 (cp_set3 hC6.1 (X)) (k + 1 + 1 + 1 + 1)) (k + 1 + 1 + 1 + 1 + 1)) (k + 1 + 1 + 1 + 1 + 1 + 1)) (floatOfInt .f64 (k + 1 + 1 + 1 + 1 + 1 + 1 + 1))
      rw [← hW8] at c8
      dsimp only at c8
      have g8 : Kg g (i * 11) (i * 11 + 11) wr W8 := by rw [hW8]; exact ((((hC6.2.set (i * 11 + 3) (by omega) (by omega) _).set (i * 11 + 4) (by omega) (by omega) _).set (i * 11 + 5) (by omega) (by omega) _).set (i * 11 + 6) (by omega) (by omega) _).set (i * 11 + 7) (by omega) (by omega) _
      have q7 := Kq.of_below hb7
      have c7 := c8.kq q7
      have g7 := g8.kq q7 hgl
      have f7 : ∀ j, w7.frozen? ⟨g, j, none⟩ = false := fun j => by
        have h1 := g7.fz j
        have h2 := hC6.2.fz j
        rw [h1, ← h2]
        exact f6 j
      have c9 := cp_set10 (cp_set9 (cp_set8 c7 (Y)) (k + 1 + 1 + 1 + 1 + 1 + 1 + 1 + 1 + 1)) (k + 1 + 1 + 1 + 1 + 1 + 1 + 1 + 1 + 1 + 1)
      have HM : Hid (Mr w g n F (i + 1) ((((w7.setCell ⟨g, i * 11 + 8, none⟩ (.string (Y))).setCell ⟨g, i * 11 + 9, none⟩ (.int .i64 (k + 1 + 1 + 1 + 1 + 1 + 1 + 1 + 1 + 1))).setCell ⟨g, i * 11 + 10, none⟩ (.int .i64 (k + 1 + 1 + 1 + 1 + 1 + 1 + 1 + 1 + 1 + 1))))) := by
        refine (show ∀ W', _ from HST) _ (((g7.set (i * 11 + 8) (by omega) (by omega) _).set (i * 11 + 9) (by omega) (by omega) _).set (i * 11 + 10) (by omega) (by omega) _) ?_
        rw [← (show mpk k X Y = mpv i from HMP)]
        exact c9
      obtain ⟨d0, d1, d2, d3, d4, d5, d6, d7, d8, d9, d10⟩ := c7
      dsimp only at d0 d1 d2 d3 d4 d5 d6 d7 d8 d9 d10
      clear c8 g8 q7 g7 hb7 hW8 hY f6 c9 hC6 HC6 HST HMP HC hc0 hgl
      go_wp2_with fail
      go_roundw
      case rel => exact ⟨i + 1, by go_num, by rw [show k = 1 + 11 * (i : Int) from HK]; exact congrArg (Value.int .i64) (by omega), by omega, HM⟩
      case measure => simp [intOf]; omega
    · obtain rfl : i = n := by omega
      clear hin
      go_wp2_with fail
      go_ret
      exact ⟨rfl, HI⟩
end Go.Proofs.Ytfpidccjcemcjaa
namespace Go.Proofs.Ytfpidccjcemcjaa
open Go.ChangeShapes Go.WideShapes Go.ChangeAt Go.RowKit
set_option linter.unusedVariables false
set_option maxRecDepth 100000
set_option maxHeartbeats 16000000 in
theorem held_pairs {v : Value} {g n : Nat} (w : World) (ha : OwnP w v g n mpv) (hn : n ≤ 1048576) :
    Calls Try.prog 52 #[v, .int .i64 1] w fun e w' => e = .returned (.int .i64 (1 + 11 * (n : Int))) ∧ Kq w w' := by
  obtain ⟨pa, ca, rfl, ha2⟩ := ha.sl
  have HA : Hid ((0 < n → pa = some ⟨g, 0, none⟩ ∧ n ≤ ca) ∧ (∀ i, i < n → Cp w ⟨g, i * 11, none⟩ (mpv i))) := (⟨ha2, ha.ce⟩ : _ ∧ _)
  have hnI : (n : Int) ≤ 1048576 := by omega
  clear ha2 ha
  go_enter Try.func52, Try.ntmps52
  go_wp2_with fail
  go_loopw [1, 5] (fun s1 s5 wr => ∃ i : Nat, s5 = .int .i64 (i : Int) ∧ s1 = .int .i64 (1 + 11 * (i : Int)) ∧ i ≤ n ∧ Hid (Kq w wr)) (fun _ s5 _ => n - (intOf s5).toNat)
  case atStart => exact ⟨0, rfl, rfl, Nat.zero_le _, Kq.refl _⟩
  case round =>
    obtain ⟨i, rfl, rfl, hin, HI⟩ := hrel
    rcases Nat.lt_or_ge i n with hi | hi
    · have hA := (show (0 < n → pa = some ⟨g, 0, none⟩ ∧ n ≤ ca) ∧ (∀ i, i < n → Cp w ⟨g, i * 11, none⟩ (mpv i)) from HA)
      obtain ⟨rfl, hca⟩ := hA.1 (by omega)
      have hiI : (i : Int) < (n : Int) := by omega
      obtain ⟨k, hk⟩ : ∃ k : Int, k = 1 + 11 * (i : Int) := ⟨_, rfl⟩
      have hX := fun W => mark_text (11 * i + 4) (by omega) (by omega) W
      have hY := fun W => mark_text (11 * i + 9) (by omega) (by omega) W
      rw [show ((11 * i + 4 : Nat) : Int) = k + 1 + 1 + 1 by omega] at hX
      rw [show ((11 * i + 9 : Nat) : Int) = k + 1 + 1 + 1 + 1 + 1 + 1 + 1 + 1 by omega] at hY
      have HMP : mpv i = mpk k (⟨#[109]⟩ ++ mtl (11 * i + 4) ⟨#[]⟩) (⟨#[109]⟩ ++ mtl (11 * i + 9) ⟨#[]⟩) := by rw [hk]; rfl
      have hcp := hA.2 i hi
      rw [HMP] at hcp
      generalize (⟨#[109]⟩ ++ mtl (11 * i + 4) ⟨#[]⟩ : ByteArray) = X at hX hcp
      generalize (⟨#[109]⟩ ++ mtl (11 * i + 9) ⟨#[]⟩ : ByteArray) = Y at hY hcp
      have hk0 : 0 ≤ k := by omega
      have hk1 : k ≤ 100000000 := by omega
      have hf2 := fI_self (k + 1 + 1) (by omega) (by omega)
      have hf7 := fI_self (k + 1 + 1 + 1 + 1 + 1 + 1 + 1) (by omega) (by omega)
      have hxx : (X.toList != X.toList) = false := by simp
      have hyy : (Y.toList != Y.toList) = false := by simp
      have HCW : Hid (∀ W, Kq w W → Cp W ⟨g, i * 11, none⟩ (mpk k X Y)) := (fun W q => hcp.kq q : ∀ W, Kq w W → _)
      have HK : Hid (k = 1 + 11 * (i : Int)) := hk
      rw [← hk]
      clear hA HA hk hin hcp HMP
      obtain ⟨d0, d1, d2, d3, d4, d5, d6, d7, d8, d9, d10⟩ := (show ∀ W, Kq w W → Cp W ⟨g, i * 11, none⟩ (mpk k X Y) from HCW) wr HI
      dsimp only [mpk] at d0 d1 d2 d3 d4 d5 d6 d7 d8 d9 d10
      go_wp2_with fail
      have HKEEP : Hid (∀ (W0 W' : World), Kq W0 W' → W0.heap = wr.heap → W'.cell? ⟨g, i * 11 + 3, none⟩ = some (.string X)) := (fun W0 W' hb he => by
        have hl : g < wr.heap.size := lt_of_cell d3
        exact (World.cell?_of_block (by rw [hb.block g (by rw [he]; exact hl), he])).trans d3 : ∀ (W0 W' : World), _)
      go_region_held_law (fun W' => W'.cell? ⟨g, i * 11 + 3, none⟩ = some (.string X)) (first | exact d3 | exact (show ∀ (W0 W' : World), _ from HKEEP) _ _ (Kq.of_below hb5) rfl) ((go_at_call 72; refine (hX _).mono ?_; rintro e w5 ⟨rfl, hb5⟩))
      all_goals
        have H5 : Hid (Kq w w5) := Kq.trans HI (Kq.trans (Kq.drew (Kq.refl _)) (Kq.of_below hb5))
        clear HI HKEEP hb5 d0 d1 d2 d3 d4 d5 d6 d7 d8 d9 d10
        obtain ⟨d0, d1, d2, d3, d4, d5, d6, d7, d8, d9, d10⟩ := (show ∀ W, Kq w W → Cp W ⟨g, i * 11, none⟩ (mpk k X Y) from HCW) w5 H5
        dsimp only [mpk] at d0 d1 d2 d3 d4 d5 d6 d7 d8 d9 d10
        go_wp2_with fail
        have HKEEP : Hid (∀ (W0 W' : World), Kq W0 W' → W0.heap = w5.heap → W'.cell? ⟨g, i * 11 + 8, none⟩ = some (.string Y)) := (fun W0 W' hb he => by
          have hl : g < w5.heap.size := lt_of_cell d8
          exact (World.cell?_of_block (by rw [hb.block g (by rw [he]; exact hl), he])).trans d8 : ∀ (W0 W' : World), _)
        go_region_held_law (fun W' => W'.cell? ⟨g, i * 11 + 8, none⟩ = some (.string Y)) (first | exact d8 | exact (show ∀ (W0 W' : World), _ from HKEEP) _ _ (Kq.of_below hb6) rfl) ((go_at_call 72; refine (hY _).mono ?_; rintro e w6 ⟨rfl, hb6⟩))
        all_goals
          have H6 : Hid (Kq w w6) := Kq.trans H5 (Kq.trans (Kq.drew (Kq.refl _)) (Kq.of_below hb6))
          clear H5 HKEEP hb6 d0 d1 d2 d3 d4 d5 d6 d7 d8 d9 d10
          obtain ⟨d0, d1, d2, d3, d4, d5, d6, d7, d8, d9, d10⟩ := (show ∀ W, Kq w W → Cp W ⟨g, i * 11, none⟩ (mpk k X Y) from HCW) w6 H6
          dsimp only [mpk] at d0 d1 d2 d3 d4 d5 d6 d7 d8 d9 d10
          go_wp2_with fail
          go_roundw
          case rel => first | exact ⟨i + 1, by go_num, by rw [show k = 1 + 11 * (i : Int) from HK]; exact congrArg (Value.int .i64) (by omega), by omega, H6⟩ | ((repeat apply Exists.intro); exact ⟨⟨i + 1, by go_num, by rw [show k = 1 + 11 * (i : Int) from HK]; exact congrArg (Value.int .i64) (by omega), by omega, H6⟩, rfl⟩)
          case measure => simp [intOf]; omega
    · obtain rfl : i = n := by omega
      clear HA hin
      go_wp2_with fail
      go_ret
      exact ⟨rfl, HI⟩
/-- all is kept but block g -/
structure Kx (g n : Nat) (a w : World) : Prop where
  os : w.os = a.os
  output : w.output = a.output
  size : a.heap.size ≤ w.heap.size
  block : ∀ k, k < a.heap.size → (0 < n → k ≠ g) → w.heap[k]? = a.heap[k]?
theorem Kx.of_kq {g n : Nat} {a w : World} (h : Kq a w) : Kx g n a w := ⟨h.os, h.output, h.size, fun k hk _ => h.block k hk⟩
theorem Kx.trans {g n : Nat} {a b c : World} (h : Kx g n a b) (k : Kx g n b c) : Kx g n a c :=
  ⟨k.os.trans h.os, k.output.trans h.output, Nat.le_trans h.size k.size, fun i hi hn => (k.block i (Nat.lt_of_lt_of_le hi h.size) hn).trans (h.block i hi hn)⟩
/-- what lies below the row is kept -/
theorem Kx.kq {g n : Nat} {a b c : World} (h : Kq a b) (k : Kx g n b c) (hg : 0 < n → a.heap.size ≤ g) : Kq a c :=
  ⟨k.os.trans h.os, k.output.trans h.output, Nat.le_trans h.size k.size, fun i hi => (k.block i (Nat.lt_of_lt_of_le hi h.size) (fun hn => by have := hg hn; omega)).trans (h.block i hi)⟩
set_option maxHeartbeats 4000000 in
theorem mark_table {v : Value} {g n : Nat} {F : Nat → Pv} (T : Int) (w : World) (ha : OwnP w v g n F) (hn : n ≤ 1048576) :
    Calls Try.prog 24 #[.agg #[v, .int .i64 T], .int .i64 1] w fun e w' => e = .returned (.int .i64 (1 + 11 * (n : Int))) ∧ OwnP w' v g n mpv ∧ Kx g n w w' := by
  have hs : Hid (∀ o t, Calls Try.prog 51 #[v, .int .i64 1] (w.alloc (.cells o t)) fun e w' => e = .returned (.int .i64 (1 + 11 * (n : Int))) ∧ OwnP w' v g n mpv ∧ Kx g n w w') := by
    show ∀ o t, _
    intro o t
    have hk := kq_alloc w o t
    rcases Nat.eq_zero_or_pos n with h0 | h0
    · subst h0
      obtain ⟨pa, ca, rfl, ha2⟩ := ha.sl
      have HF : Hid (OwnP w (.slice pa 0 ca) g 0 F) := ha
      have HK : Hid (Kq w (w.alloc (.cells o t))) := hk
      generalize w.alloc (.cells o t) = W at HK ⊢
      clear ha ha2 hk hn
      go_enter Try.func51, Try.ntmps51
      go_wp2_with fail
      refine wp_loop_rounds 1 ?_
      rw [rounds_succ]
      go_wp2_with fail
      go_ret
      exact ⟨rfl, ⟨(show OwnP w (.slice pa 0 ca) g 0 F from HF).sl, fun i hi => by omega, fun hn => by omega⟩, .of_kq HK⟩
    · refine (mark_pairs _ (ha.kq hk) hn h0).mono ?_
      rintro e w' ⟨rfl, m⟩
      exact ⟨rfl, ⟨ha.sl, m.don, fun _ => m.fz⟩, ⟨m.os.trans hk.os, m.output.trans hk.output, Nat.le_trans hk.size m.size, fun b hb hn => (m.block b (Nat.lt_of_lt_of_le hb hk.size) (hn h0)).trans (hk.block b hb)⟩⟩
  obtain ⟨pa, ca, rfl, _⟩ := ha.sl
  clear hn ha
  go_enter Try.func24, Try.ntmps24
  go_wp2_with fail
  refine (hs _ _).mono ?_
  rintro e w1 ⟨rfl, ho, hk⟩
  have HB : Hid (OwnP w1 (.slice pa n ca) g n mpv ∧ Kx g n w w1) := (⟨ho, hk⟩ : _ ∧ _)
  clear hs ho hk
  go_wp2_with fail
  go_ret
  exact ⟨rfl, (show OwnP w1 (.slice pa n ca) g n mpv ∧ Kx g n w w1 from HB).1, (show OwnP w1 (.slice pa n ca) g n mpv ∧ Kx g n w w1 from HB).2⟩
set_option maxHeartbeats 4000000 in
theorem held_table {v : Value} {g n : Nat} (T : Int) (w : World) (ha : OwnP w v g n mpv) (hn : n ≤ 1048576) :
    Calls Try.prog 25 #[.agg #[v, .int .i64 T], .int .i64 1] w fun e w' => e = .returned (.int .i64 (1 + 11 * (n : Int))) ∧ Kq w w' := by
  have hs : Hid (∀ o t, Calls Try.prog 52 #[v, .int .i64 1] (w.alloc (.cells o t)) fun e w' => e = .returned (.int .i64 (1 + 11 * (n : Int))) ∧ Kq w w') := (fun o t => (held_pairs _ (ha.kq (kq_alloc w o t)) hn).mono (fun e w' h => ⟨h.1, (kq_alloc w o t).trans h.2⟩) : ∀ o t, _)
  obtain ⟨pa, ca, rfl, _⟩ := ha.sl
  have h0 : ¬ (1 + 11 * (n : Int)) < 0 := by omega
  clear hn ha
  go_enter Try.func25, Try.ntmps25
  go_wp2_with fail
  refine (hs _ _).mono ?_
  rintro e w1 ⟨rfl, hk⟩
  have HB : Hid (Kq w w1) := hk
  clear hs hk
  go_wp2_with fail
  go_ret
  exact ⟨rfl, HB⟩
end Go.Proofs.Ytfpidccjcemcjaa
namespace Go.Proofs.Ytfpidccjcemcjaa
section
variable {P : Program} {ops : Array Oper} {Q : Exit → Act → World → Prop} {md : Region.Mode} {S : World → Prop} {z : Nat}
/-- operation z waits for operation i, by however many steps -/
def depB (md : Region.Mode) (ops : Array Oper) : Nat → Nat → Nat → Bool
  | 0, _, _ => false
  | f + 1, z, i => match ops[z]? with
    | none => false
    | some o => o.after.any fun e => Region.binds md e && (e.on == i || depB md ops f e.on i)
/-- what is listed has all that it waits for listed -/
def Cl (md : Region.Mode) (ops : Array Oper) (listed : Array Bool) : Prop := ∀ j oj, ops[j]? = some oj → listed.getD j false = true → ∀ e ∈ oj.after, Region.binds md e = true → listed.getD e.on false = true
theorem dep_listed {listed : Array Bool} (hc : Cl md ops listed) (i : Nat) : ∀ (f j : Nat) (oj : Oper), ops[j]? = some oj → (∀ e ∈ oj.after, Region.binds md e = true → listed.getD e.on false = true) → depB md ops f j i = true → listed.getD i false = true
  | 0, _, _, _, _, h => by cases h
  | f + 1, j, oj, ho, hall, h => by
    unfold depB at h
    rw [ho] at h
    simp only [Array.any_eq_true] at h
    obtain ⟨m, hm, h1⟩ := h
    simp only [Bool.and_eq_true, Bool.or_eq_true, beq_iff_eq] at h1
    have hl := hall _ (Array.getElem_mem hm) h1.1
    rcases h1.2 with h2 | h2
    · rw [← h2]; exact hl
    · cases hq : ops[(oj.after[m]).on]? with
      | none =>
        cases f with
        | zero => cases h2
        | succ f => unfold depB at h2; rw [hq] at h2; cases h2
      | some o2 => exact dep_listed hc i f _ o2 hq (hc _ o2 hq hl) h2
theorem Cl.set {listed : Array Bool} (hc : Cl md ops listed) {j : Nat} (hj : j ∈ Region.ready md ops listed) : Cl md ops (listed.setIfInBounds j true) := by
  intro m om hm hl e he hb
  refine getD_set_true ?_
  obtain ⟨_, oj, hoj, hall⟩ := mem_ready.1 hj
  by_cases q : j = m
  · subst q
    rw [hoj] at hm
    cases hm
    exact hall e he hb
  · rw [getD_set_ne false q] at hl
    exact hc m om hm hl e he hb
theorem AnyL.firstC {i : Nat} {oi : Oper} {v : Value} (hi : ops[i]? = some oi) (hsel : ∀ (j : Nat) (o : Oper) cs b, ops[j]? = some o → o.op ≠ .select cs b) (hQ : ∀ c a w, Q (.panic c) (a.put oi.dst v) w → Q (.panic c) a w) (f : Nat) (hz : depB md ops f z i = true) (k : Nat) :
    ∀ (listed : Array Bool) (a : Act) (w : World), Cl md ops listed → (∀ j oj, ops[j]? = some oj → j ≠ i → listed.getD j true = false → (∀ e ∈ oj.after, Region.binds md e = true → e.on ≠ i) → oi.apart ops oj = true) →
      i ∈ Region.ready md ops listed → YieldsIf P ops S oi v a → S w → AnyL P md ops Q S z k (listed.setIfInBounds i true) (a.put oi.dst v) w → AnyL P md ops Q S z (k + 1) listed a w := by
  induction k with
  | zero =>
    intro listed a w _ _ hr hy hS H
    refine ⟨fun h => absurd hr (by rw [h]; simp), fun j hj => ?_⟩
    by_cases e : j = i
    · subst e
      exact hy.wpOp hi hS ⟨fun _ => hS, H⟩
    · exact absurd (ready_mono hj e) (by rw [H.1]; simp)
  | succ k ih =>
    intro listed a w hcl hfree hr hy hS H
    refine ⟨fun h => absurd hr (by rw [h]; simp), fun j hj => ?_⟩
    by_cases e : j = i
    · subst e
      exact hy.wpOp hi hS ⟨fun _ => hS, H⟩
    · have h1 := H.2 j (ready_mono hj e)
      obtain ⟨hun, oj, hoj, hall⟩ := mem_ready.1 hj
      have hil : ¬ listed.getD i false = true := by
        intro q1
        have q0 := (mem_ready.1 hr).1
        rcases Nat.lt_or_ge i listed.size with l | l
        · simp [l] at q0 q1
          rw [q0] at q1
          cases q1
        · simp [Array.getElem?_eq_none l] at q1
      have hno : ∀ x ∈ oj.after, Region.binds md x = true → x.on ≠ i := by
        intro x hx hb heq
        have q1 := hall x hx hb
        rw [heq] at q1
        exact hil q1
      have h2 := wpOp_putIf hoj (hfree j oj hoj e hun hno) (fun cs b => hsel i oi cs b hi) (fun cs b => hsel j oj cs b hoj) hQ hy h1
      have hjz : j ≠ z := by
        rintro rfl
        exact hil (dep_listed hcl i f j oj hoj hall hz)
      refine wpOp_mono (fun a' w' h3 => ⟨fun _ => h3.2.1 hjz, ih (listed.setIfInBounds j true) a' w' (hcl.set hj) ?_ (ready_mono hr (Ne.symm e)) h3.1 (h3.2.1 hjz) ?_⟩) h2
      · intro m om hm hmi hu hn
        refine hfree m om hm hmi ?_ hn
        by_cases e2 : j = m
        · subst e2; exact hun
        · rw [getD_set_ne true e2] at hu; exact hu
      · rw [Array.setIfInBounds_comm _ _ e]
        exact h3.2.2
/-- the same, checked -/
def clB (md : Region.Mode) (ops : Array Oper) (listed : Array Bool) : Bool := (List.range ops.size).all fun j => match ops[j]? with
  | none => true
  | some o => !(listed.getD j false) || o.after.toList.all fun e => !(Region.binds md e) || listed.getD e.on false
theorem clB_cl {listed : Array Bool} (h : clB md ops listed = true) : Cl md ops listed := by
  intro j oj hj hl e he hb
  unfold clB at h
  rw [List.all_eq_true] at h
  have h1 := h j (List.mem_range.2 (Array.getElem?_eq_some_iff.1 hj).1)
  rw [hj] at h1
  simp only [hl, Bool.not_true, Bool.false_or, List.all_eq_true] at h1
  have h2 := h1 e (by simpa using he)
  rw [hb] at h2
  simpa using h2
theorem AnyL.takeC (f i : Nat) (v : Value) {l : List Oper} {oi : Oper} {k : Nat} {listed : Array Bool} {a : Act} {w : World} (hi : l[i]? = some oi)
    (hs : Region.noSelect l.toArray = true) (hf : Region.free md l.toArray listed i = true) (hr : (Region.ready md l.toArray listed).contains i = true)
    (hz : depB md l.toArray f z i = true) (hc : clB md l.toArray listed = true)
    (hQ : ∀ c a w, Q (.panic c) (a.put oi.dst v) w → Q (.panic c) a w) (hw : Region.wanted oi (yielded l.toArray a.tmps) = true) (hS : S w) (hy : ∀ w, S w → (execOp a.eval oi).run P w = .ok (.value v) w)
    (h : AnyL P md l.toArray Q S z k (listed.setIfInBounds i true) (a.put oi.dst v) w) : AnyL P md l.toArray Q S z (k + 1) listed a w :=
  AnyL.firstC (by simpa using hi) (Region.noSelect_spec hs) hQ f hz k listed a w (clB_cl hc) (Region.free_spec (by simpa using hi) hf) (by simpa using hr) (Or.inl ⟨hw, hy⟩) hS h
end
end Go.Proofs.Ytfpidccjcemcjaa
namespace Go.Proofs.Ytfpidccjcemcjaa
open Go.ChangeShapes Go.WideShapes Go.ChangeAt Go.RowKit
set_option linter.unusedVariables false
set_option maxRecDepth 100000
theorem tok_b0 {n : Nat} {F : Nat → Pv} {T : Int} (h : tok n F T) : ∀ j, j < n → ¬ (F j).b.k = 0 := fun j hj => (h.2.2.2 j hj).2.2.1
theorem tok_one {n : Nat} {F : Nat → Pv} {T : Int} (h : tok n F T) {r : Nat} {u : Vv} (hr : r < n) (hm : mk (F r).a = mk u) : ∀ j, j < n → j ≠ r → ¬ mk (F j).a = mk u := fun j hj hne e => hne (tok_mk h hj hr (e.trans hm.symm))
theorem find_no {w : World} {B M n : Nat} {F : Nat → Pv} {v : Value} {T : Int} (u y : Vv) (hu : kok u) (W : World) (hL : Lg w B M (lsp F n) v T W) (ht : tok n F T) (hno : ¬ met F u n) : Calls Try.prog 69 #[.pointer (some ⟨B, 0, none⟩), vv u] W fun e w' => ∃ r : Nat, e = .returned (.tuple #[.int .i64 (r : Int), .bool false]) ∧ Kq W w' := by
  refine (im_find u hu W hL ht).mono ?_
  rintro e w' ⟨r, ok, rfl, hfd, k⟩
  rcases hfd with ⟨rfl, _⟩ | ⟨rfl, h1, h2⟩
  · exact ⟨r, rfl, k⟩
  · exact absurd ⟨r, h1, h2⟩ hno
theorem find_at {w : World} {B M n : Nat} {F : Nat → Pv} {v : Value} {T : Int} (u y : Vv) (hu : kok u) (W : World) (hL : Lg w B M (lsp F n) v T W) (ht : tok n F T) {r : Nat} (hr : r < n) (hm : mk (F r).a = mk u) : Calls Try.prog 69 #[.pointer (some ⟨B, 0, none⟩), vv u] W fun e w' => e = .returned (.tuple #[.int .i64 (r : Int), .bool true]) ∧ Kq W w' := by
  refine (im_find u hu W hL ht).mono ?_
  rintro e w' ⟨r', ok, rfl, hfd, k⟩
  rcases hfd with ⟨rfl, h⟩ | ⟨rfl, h1, h2⟩
  · exact absurd hm (h r hr)
  · rw [tok_mk ht h1 hr (h2.trans hm.symm)]
    exact ⟨rfl, k⟩
set_option maxHeartbeats 8000000 in
theorem put_del {w : World} {B M r m : Nat} {F : Nat → Pv} {v : Value} {T : Int} (u y : Vv) (hu : kok u) (W : World) (hL : Lg w B M (lsp F (r + 1 + m)) v T W) (ht : tok (r + 1 + m) F T) (hm : mk (F r).a = mk u) (hy : y.k = 0) : Calls Try.prog 50 #[.pointer (some ⟨B, 0, none⟩), vv u, vv y] W fun e W' => e = .returned (.tuple #[]) ∧ ∃ v' L T', Pt (r + 1 + m) F T u y L T' ∧ Lp w B M L v' T' W' := by
  have hpt : Pt (r + 1 + m) F T u y (cutl F r m) T := by
    refine .inr ⟨fun h => h.2.1 hy, ?_, rfl⟩
    rw [putl_at hm m (fun j hj => tok_one ht (by omega) hm j hj) (tok_b0 ht), if_pos hy, List.append_nil]
    rfl
  have HPT : Hid (Pt (r + 1 + m) F T u y (cutl F r m) T) := hpt
  have HMK := fun w => im_mark u hu w
  have HDL : Hid (∀ W, Mp W M (kts (lsp F (r + 1 + m))) → ∀ kt ty, ∃ o, (Builtin.delete_ #[72, kt] ty #[.map (some M), mkw u]).run Try.prog W = .ok (.tuple #[]) (setB W M o)) := (fun W h kt ty => run_delMk h u kt ty : ∀ W, _)
  have hn : r + 1 + m ≤ 500 := ht.1
  have HF0 := fun W' (q : Kq W W') => find_at u y hu W' (hL.on q) ht (show r < r + 1 + m by omega) hm
  generalize mkw u = mw at HMK HDL
  generalize Pt (r + 1 + m) F T u y = Pu at HPT ⊢
  clear hpt
  obtain ⟨uk, um, ug, ux, ur⟩ := u
  obtain ⟨yk, ym, yg, yx, yr⟩ := y
  obtain ⟨w2, hw2⟩ : ∃ w2, w2 = (W.alloc (.cells #[.int .i64 uk, .int .i64 um, .float .f64 ug, .string ux, .int .i64 ur] 26)).alloc (.cells #[.int .i64 yk, .int .i64 ym, .float .f64 yg, .string yx, .int .i64 yr] 26) := ⟨_, rfl⟩
  obtain ⟨x0, x1, z2, k2⟩ := two_new W _ _ _ _ w2 hw2
  have hst : ∀ (a : Addr) (n : Nat) (m : Mode) (w : World), (store a (.float .f64 n) m).run Try.prog w = stored Try.prog w a (.float .f64 n) m := fun a n m w => run_store _ _ _ _ _ rfl
  have HF : Hid (Calls Try.prog 69 #[.pointer (some ⟨B, 0, none⟩), .agg #[.int .i64 uk, .int .i64 um, .float .f64 ug, .string ux, .int .i64 ur]] w2 fun e w' => e = .returned (.tuple #[.int .i64 (r : Int), .bool true]) ∧ Kq w2 w') := HF0 w2 k2
  have HKX : Hid (Kq W w2 ∧ w2.heap[W.heap.size]? = some (.cells #[.int .i64 uk, .int .i64 um, .float .f64 ug, .string ux, .int .i64 ur] 26 (0, 0)) ∧ w2.heap[W.heap.size + 1]? = some (.cells #[.int .i64 yk, .int .i64 ym, .float .f64 yg, .string yx, .int .i64 yr] 26 (0, 0))) := (⟨k2, x0, x1⟩ : _ ∧ _ ∧ _)
  have HLG : Hid (Lg w B M (lsp F (r + 1 + m)) v T W) := hL
  have hB := hL.lt
  dsimp only at hy HMK
  subst hy
  clear HF0 k2 x0 x1 z2 ht hu hm hL
  unfold vv at HMK
  dsimp only at HMK
  unfold vv
  dsimp only
  go_enter Try.func50, Try.ntmps50
  go_wp2_with fail
  rw [← hw2]
  clear hw2
  refine (show Calls Try.prog 69 #[.pointer (some ⟨B, 0, none⟩), .agg #[.int .i64 uk, .int .i64 um, .float .f64 ug, .string ux, .int .i64 ur]] w2 fun e w' => e = .returned (.tuple #[.int .i64 (r : Int), .bool true]) ∧ Kq w2 w' from HF).mono ?_
  rintro e w3 ⟨rfl, k3⟩
  have hX := (show Kq W w2 ∧ w2.heap[W.heap.size]? = _ ∧ w2.heap[W.heap.size + 1]? = _ from HKX)
  have y0 := k3.cell (cell_of hX.2.2 (j := 0) rfl)
  have u3 := (k3.block W.heap.size (lt_of_obj hX.2.1)).trans hX.2.1
  have L3 := Lg.on HLG (hX.1.trans k3)
  have hMv : some M ≠ v.ownBlock := fun e => by have := (L3.row.lt M e.symm).1; have := L3.mb; omega
  have hKv : some W.heap.size ≠ v.ownBlock := fun e => by have := ((show Lg w B M (lsp F (r + 1 + m)) v T W from HLG).row.lt _ e.symm).2; omega
  have hMB : M ≠ B := by have := L3.mb; omega
  have hMp := L3.mp
  have b0 := cell_of L3.ob (j := 0) rfl
  obtain ⟨g, cap, rfl, HC⟩ := Lg.cut L3 (by omega)
  have HC' : Hid (Calls Try.prog 70 _ w3 _) := HC
  have HU3 : Hid (w3.heap[W.heap.size]? = some (.cells #[.int .i64 uk, .int .i64 um, .float .f64 ug, .string ux, .int .i64 ur] 26 (0, 0)) ∧ Mp w3 M (kts (lsp F (r + 1 + m)))) := (⟨u3, hMp⟩ : _ ∧ _)
  have hrI : (r : Int) ≤ 500 := by omega
  clear hX HKX HF L3 HLG u3 hMp k3 HC
  go_wp2_with fail
  refine (show Calls Try.prog 70 _ w3 _ from HC').mono ?_
  rintro e w4 ⟨rfl, o4, f4, hLp, hblk⟩
  have HLP : Hid (Lp w B M (cutl F r m) (.slice (some ⟨g, 0, none⟩) (r + m) cap) T (w4.setCell ⟨B, 0, none⟩ (.slice (some ⟨g, 0, none⟩) (r + m) cap))) := hLp
  have hU3 := (show w3.heap[W.heap.size]? = some (.cells #[.int .i64 uk, .int .i64 um, .float .f64 ug, .string ux, .int .i64 ur] 26 (0, 0)) ∧ Mp w3 M (kts (lsp F (r + 1 + m))) from HU3)
  have u5 := (hblk W.heap.size (by omega) hKv).trans hU3.1
  have HM5 : Hid (Mp (w4.setCell ⟨B, 0, none⟩ (.slice (some ⟨g, 0, none⟩) (r + m) cap)) M (kts (lsp F (r + 1 + m)))) := by
    obtain ⟨es, clock, q1, q2⟩ := hU3.2
    exact (⟨es, clock, (hblk M hMB hMv).trans q1, q2⟩ : Mp _ M _)
  clear hLp hblk hU3 HU3 HC' y0 b0
  go_wp2_with fail
  clear o4 f4
  generalize w4.setCell ⟨B, 0, none⟩ (.slice (some ⟨g, 0, none⟩) (r + m) cap) = w5 at HLP HM5 u5 ⊢
  have S5 : w5.cell? ⟨B, 2, none⟩ = some (.map (some M)) ∧ Vc w5 W.heap.size ⟨uk, um, ug, ux, ur⟩ := ⟨cell_of (Lp.ob HLP) rfl, cell_of u5 rfl, cell_of u5 rfl, cell_of u5 rfl, cell_of u5 rfl, cell_of u5 rfl⟩
  have HS : Hid (∀ W', Kq w5 W' → W'.cell? ⟨B, 2, none⟩ = some (.map (some M)) ∧ Vc W' W.heap.size ⟨uk, um, ug, ux, ur⟩) := (fun W' q => ⟨q.cell S5.1, S5.2.kq q⟩ : ∀ W', Kq w5 W' → _)
  have hKM : W.heap.size ≠ M := by have := (show Lp _ _ _ _ _ _ _ from HLP).mb; omega
  have HSB : Hid (∀ W' o, (W'.cell? ⟨B, 2, none⟩ = some (.map (some M)) ∧ Vc W' W.heap.size ⟨uk, um, ug, ux, ur⟩) → ((setB W' M o).cell? ⟨B, 2, none⟩ = some (.map (some M)) ∧ Vc (setB W' M o) W.heap.size ⟨uk, um, ug, ux, ur⟩)) := (fun W' o h => by
    have eb : ∀ j, (setB W' M o).cell? ⟨B, j, none⟩ = W'.cell? ⟨B, j, none⟩ := fun j => World.cell?_of_block (setB_oth W' M o B (Ne.symm hMB))
    have ek : ∀ j, (setB W' M o).cell? ⟨W.heap.size, j, none⟩ = W'.cell? ⟨W.heap.size, j, none⟩ := fun j => World.cell?_of_block (setB_oth W' M o W.heap.size hKM)
    obtain ⟨h0, h1, h2, h3, h4, h5⟩ := h
    exact ⟨(eb _).trans h0, (ek _).trans h1, (ek _).trans h2, (ek _).trans h3, (ek _).trans h4, (ek _).trans h5⟩ : ∀ W' o, _)
  clear S5 u5
  refine AnyL.region (S := fun W' : World => W'.cell? ⟨B, 2, none⟩ = some (.map (some M)) ∧ Vc W' W.heap.size ⟨uk, um, ug, ux, ur⟩) (z := 99) (by kernel_rfl) ?_
  have hS0 : (fun W' : World => W'.cell? ⟨B, 2, none⟩ = some (.map (some M)) ∧ Vc W' W.heap.size ⟨uk, um, ug, ux, ur⟩) w5.drew := (show ∀ W', Kq w5 W' → W'.cell? ⟨B, 2, none⟩ = some (.map (some M)) ∧ Vc W' W.heap.size ⟨uk, um, ug, ux, ur⟩ from HS) w5.drew (Kq.drew (Kq.refl _))
  refine AnyL.takeAt 0 (.pointer (some ⟨B, 0, none⟩)) rfl (by kernel_rfl) (by kernel_rfl) (by kernel_rfl) (by kernel_rfl) (fun _ _ _ h => h) rfl hS0 (by intro W hW; obtain ⟨q0, ⟨q2, q3, q4, q5, q6⟩⟩ := hW; go_simp) ?_
  try simp only [Act.put, List.setIfInBounds_toArray, List.set_cons_zero, List.set_cons_succ]
  refine AnyL.takeAt 1 (.pointer (some ⟨B, 0, none⟩)) rfl (by kernel_rfl) (by kernel_rfl) (by kernel_rfl) (by kernel_rfl) (fun _ _ _ h => h) rfl hS0 (by intro W hW; obtain ⟨q0, ⟨q2, q3, q4, q5, q6⟩⟩ := hW; go_simp) ?_
  try simp only [Act.put, List.setIfInBounds_toArray, List.set_cons_zero, List.set_cons_succ]
  refine AnyL.takeAt 2 (.pointer (some ⟨B, 2, none⟩)) rfl (by kernel_rfl) (by kernel_rfl) (by kernel_rfl) (by kernel_rfl) (fun _ _ _ h => h) rfl hS0 (by intro W hW; obtain ⟨q0, ⟨q2, q3, q4, q5, q6⟩⟩ := hW; go_simp) ?_
  try simp only [Act.put, List.setIfInBounds_toArray, List.set_cons_zero, List.set_cons_succ]
  refine AnyL.takeAt 3 (.map (some M)) rfl (by kernel_rfl) (by kernel_rfl) (by kernel_rfl) (by kernel_rfl) (fun _ _ _ h => h) rfl hS0 (by intro W hW; obtain ⟨q0, ⟨q2, q3, q4, q5, q6⟩⟩ := hW; go_simp) ?_
  try simp only [Act.put, List.setIfInBounds_toArray, List.set_cons_zero, List.set_cons_succ]
  refine AnyL.takeAt 4 (.agg #[.int .i64 uk, .int .i64 um, .float .f64 ug, .string ux, .int .i64 ur]) rfl (by kernel_rfl) (by kernel_rfl) (by kernel_rfl) (by kernel_rfl) (fun _ _ _ h => h) rfl hS0 (by intro W hW; obtain ⟨q0, ⟨q2, q3, q4, q5, q6⟩⟩ := hW; go_simp) ?_
  try simp only [Act.put, List.setIfInBounds_toArray, List.set_cons_zero, List.set_cons_succ]
  refine AnyL.oneAt 5 rfl (by kernel_rfl) rfl ?_
  intro K hK
  go_simp
  refine (HMK _).mono ?_
  rintro e w6 ⟨rfl, g6⟩
  have K6 : Hid (Kq w5 w6) := Kq.trans (Kq.drew (Kq.refl _)) g6
  have hS6 := (show ∀ W', Kq w5 W' → W'.cell? ⟨B, 2, none⟩ = some (.map (some M)) ∧ Vc W' W.heap.size ⟨uk, um, ug, ux, ur⟩ from HS) w6 K6
  clear g6
  refine hK.out _ _ (fun _ => hS6) ?_
  clear hK K
  try simp only [Act.put, List.setIfInBounds_toArray, List.set_cons_zero, List.set_cons_succ]
  have hM6 := Mp.kq HM5 K6
  obtain ⟨o, hdl⟩ := (show ∀ W, Mp W M (kts (lsp F (r + 1 + m))) → ∀ kt ty, _ from HDL) w6 hM6 93 0
  refine AnyL.oneAt 6 rfl (by kernel_rfl) rfl ?_
  intro K hK
  go_simp
  refine hK.out _ _ (fun _ => (show ∀ W' o, _ from HSB) w6 o hS6) ?_
  clear hK K
  try simp only [Act.put, List.setIfInBounds_toArray, List.set_cons_zero, List.set_cons_succ]
  refine AnyL.done (by kernel_rfl) ?_
  have HE : Hid (Lp w B M (cutl F r m) (.slice (some ⟨g, 0, none⟩) (r + m) cap) T (setB w6 M o)) := Lp.setB (Lp.on HLP K6) o
  clear hS0 hS6 HS HSB HM5 hM6 hdl HLP K6 HDL HMK
  go_wp2_with fail
  go_end0
  exact ⟨rfl, _, _, _, HPT, HE⟩
end Go.Proofs.Ytfpidccjcemcjaa
namespace Go.Proofs.Ytfpidccjcemcjaa
open Go.ChangeShapes Go.WideShapes Go.ChangeAt Go.RowKit
set_option linter.unusedVariables false
set_option maxRecDepth 100000
set_option maxHeartbeats 8000000 in
theorem put_set {w : World} {B M r m : Nat} {F : Nat → Pv} {v : Value} {T : Int} (u y : Vv) (hu : kok u) (W : World) (hL : Lg w B M (lsp F (r + 1 + m)) v T W) (ht : tok (r + 1 + m) F T) (hm : mk (F r).a = mk u) (hy : ¬ y.k = 0) (hxy : (y.x.size : Int) ≤ 1048576) : Calls Try.prog 50 #[.pointer (some ⟨B, 0, none⟩), vv u, vv y] W fun e W' => e = .returned (.tuple #[]) ∧ ∃ v' L T', Pt (r + 1 + m) F T u y L T' ∧ Lp w B M L v' T' W' := by
  have hpt : Pt (r + 1 + m) F T u y (setl F r m y) T := by
    refine .inr ⟨fun h => h.1 ⟨r, by omega, hm⟩, ?_, rfl⟩
    rw [putl_at hm m (fun j hj => tok_one ht (by omega) hm j hj) (tok_b0 ht), if_neg hy, List.append_assoc]
    rfl
  have HPT : Hid (Pt (r + 1 + m) F T u y (setl F r m y) T) := hpt
  have HCL := fun w => im_cloned y hxy w
  have hn : r + 1 + m ≤ 500 := ht.1
  have HF0 := fun W' (q : Kq W W') => find_at u y hu W' (hL.on q) ht (show r < r + 1 + m by omega) hm
  generalize Pt (r + 1 + m) F T u y = Pu at HPT ⊢
  clear hpt
  obtain ⟨uk, um, ug, ux, ur⟩ := u
  obtain ⟨yk, ym, yg, yx, yr⟩ := y
  obtain ⟨w2, hw2⟩ : ∃ w2, w2 = (W.alloc (.cells #[.int .i64 uk, .int .i64 um, .float .f64 ug, .string ux, .int .i64 ur] 26)).alloc (.cells #[.int .i64 yk, .int .i64 ym, .float .f64 yg, .string yx, .int .i64 yr] 26) := ⟨_, rfl⟩
  obtain ⟨x0, x1, z2, k2⟩ := two_new W _ _ _ _ w2 hw2
  have hst : ∀ (a : Addr) (n : Nat) (m : Mode) (w : World), (store a (.float .f64 n) m).run Try.prog w = stored Try.prog w a (.float .f64 n) m := fun a n m w => run_store _ _ _ _ _ rfl
  have HF : Hid (Calls Try.prog 69 #[.pointer (some ⟨B, 0, none⟩), .agg #[.int .i64 uk, .int .i64 um, .float .f64 ug, .string ux, .int .i64 ur]] w2 fun e w' => e = .returned (.tuple #[.int .i64 (r : Int), .bool true]) ∧ Kq w2 w') := HF0 w2 k2
  have HKX : Hid (Kq W w2 ∧ w2.heap[W.heap.size]? = some (.cells #[.int .i64 uk, .int .i64 um, .float .f64 ug, .string ux, .int .i64 ur] 26 (0, 0)) ∧ w2.heap[W.heap.size + 1]? = some (.cells #[.int .i64 yk, .int .i64 ym, .float .f64 yg, .string yx, .int .i64 yr] 26 (0, 0))) := (⟨k2, x0, x1⟩ : _ ∧ _ ∧ _)
  have HLG : Hid (Lg w B M (lsp F (r + 1 + m)) v T W) := hL
  dsimp only at hy HCL
  have hy1 : (yk == 0) = false := by simpa using hy
  clear HF0 k2 x0 x1 z2 ht hu hm hL hxy hy
  unfold vv at HCL
  dsimp only at HCL
  unfold vv
  dsimp only
  go_enter Try.func50, Try.ntmps50
  go_wp2_with fail
  rw [← hw2]
  clear hw2
  refine (show Calls Try.prog 69 #[.pointer (some ⟨B, 0, none⟩), .agg #[.int .i64 uk, .int .i64 um, .float .f64 ug, .string ux, .int .i64 ur]] w2 fun e w' => e = .returned (.tuple #[.int .i64 (r : Int), .bool true]) ∧ Kq w2 w' from HF).mono ?_
  rintro e w3 ⟨rfl, k3⟩
  have hX := (show Kq W w2 ∧ w2.heap[W.heap.size]? = _ ∧ w2.heap[W.heap.size + 1]? = _ from HKX)
  have y0 := k3.cell (cell_of hX.2.2 (j := 0) rfl)
  have u3 := (k3.block (W.heap.size + 1) (lt_of_obj hX.2.2)).trans hX.2.2
  have L3 := Lg.on HLG (hX.1.trans k3)
  obtain ⟨g, cap, rfl, hcap, hc3, hf3, hP3⟩ := Lg.put5 L3 yk ym yg yx yr
  have HPUT : Hid (∀ W', Kq w3 W' → Cp W' ⟨g, r * 11, none⟩ (F r) ∧ (∀ j, W'.frozen? ⟨g, j, none⟩ = false) ∧ Lp w B M (setl F r m ⟨yk, ym, yg, yx, yr⟩) (.slice (some ⟨g, 0, none⟩) (r + 1 + m) cap) T (W'.setCells g (r * 11 + 5) [.int .i64 yk, .int .i64 ym, .float .f64 yg, .string yx, .int .i64 yr])) := (fun W' q => by
    obtain ⟨g', cap', e1, _, p1, p2, p3⟩ := Lg.put5 (L3.on q) yk ym yg yx yr
    simp only [Value.slice.injEq, Option.some.injEq, Addr.mk.injEq] at e1
    obtain ⟨⟨rfl, _⟩, _, rfl⟩ := e1
    exact ⟨p1, p2, p3⟩ : ∀ W', Kq w3 W' → _)
  have S3 : w3.cell? ⟨B, 0, none⟩ = some (.slice (some ⟨g, 0, none⟩) (r + 1 + m) cap) ∧ Vc w3 (W.heap.size + 1) ⟨yk, ym, yg, yx, yr⟩ := ⟨cell_of L3.ob (j := 0) rfl, cell_of u3 rfl, cell_of u3 rfl, cell_of u3 rfl, cell_of u3 rfl, cell_of u3 rfl⟩
  have HS : Hid (∀ W', Kq w3 W' → W'.cell? ⟨B, 0, none⟩ = some (.slice (some ⟨g, 0, none⟩) (r + 1 + m) cap) ∧ Vc W' (W.heap.size + 1) ⟨yk, ym, yg, yx, yr⟩) := (fun W' q => ⟨q.cell S3.1, S3.2.kq q⟩ : ∀ W', Kq w3 W' → _)
  have hrI : (r : Int) ≤ 500 := by omega
  have hrn : (r : Int) < (r : Int) + 1 + (m : Int) := by omega
  clear hX HKX HF L3 HLG u3 k3 S3 hc3 hf3 hP3
  go_wp2_with fail
  clear y0
  refine AnyL.region (S := fun W' : World => W'.cell? ⟨B, 0, none⟩ = some (.slice (some ⟨g, 0, none⟩) (r + 1 + m) cap) ∧ Vc W' (W.heap.size + 1) ⟨yk, ym, yg, yx, yr⟩) (z := 9) (by kernel_rfl) ?_
  have hS0 : (fun W' : World => W'.cell? ⟨B, 0, none⟩ = some (.slice (some ⟨g, 0, none⟩) (r + 1 + m) cap) ∧ Vc W' (W.heap.size + 1) ⟨yk, ym, yg, yx, yr⟩) w3.drew := (show ∀ W', Kq w3 W' → W'.cell? ⟨B, 0, none⟩ = some (.slice (some ⟨g, 0, none⟩) (r + 1 + m) cap) ∧ Vc W' (W.heap.size + 1) ⟨yk, ym, yg, yx, yr⟩ from HS) w3.drew (Kq.drew (Kq.refl _))
  refine AnyL.takeAt 0 (.pointer (some ⟨B, 0, none⟩)) rfl (by kernel_rfl) (by kernel_rfl) (by kernel_rfl) (by kernel_rfl) (fun _ _ _ h => h) rfl hS0 (by intro W hW; obtain ⟨q0, ⟨q2, q3, q4, q5, q6⟩⟩ := hW; go_simp) ?_
  try simp only [Act.put, List.setIfInBounds_toArray, List.set_cons_zero, List.set_cons_succ]
  refine AnyL.takeAt 1 (.pointer (some ⟨B, 0, none⟩)) rfl (by kernel_rfl) (by kernel_rfl) (by kernel_rfl) (by kernel_rfl) (fun _ _ _ h => h) rfl hS0 (by intro W hW; obtain ⟨q0, ⟨q2, q3, q4, q5, q6⟩⟩ := hW; go_simp) ?_
  try simp only [Act.put, List.setIfInBounds_toArray, List.set_cons_zero, List.set_cons_succ]
  refine AnyL.takeAt 2 (.pointer (some ⟨B, 0, none⟩)) rfl (by kernel_rfl) (by kernel_rfl) (by kernel_rfl) (by kernel_rfl) (fun _ _ _ h => h) rfl hS0 (by intro W hW; obtain ⟨q0, ⟨q2, q3, q4, q5, q6⟩⟩ := hW; go_simp) ?_
  try simp only [Act.put, List.setIfInBounds_toArray, List.set_cons_zero, List.set_cons_succ]
  refine AnyL.takeAt 3 (.slice (some ⟨g, 0, none⟩) (r + 1 + m) cap) rfl (by kernel_rfl) (by kernel_rfl) (by kernel_rfl) (by kernel_rfl) (fun _ _ _ h => h) rfl hS0 (by intro W hW; obtain ⟨q0, ⟨q2, q3, q4, q5, q6⟩⟩ := hW; go_simp) ?_
  try simp only [Act.put, List.setIfInBounds_toArray, List.set_cons_zero, List.set_cons_succ]
  refine AnyL.takeAt 4 (.int .i64 (r : Int)) rfl (by kernel_rfl) (by kernel_rfl) (by kernel_rfl) (by kernel_rfl) (fun _ _ _ h => h) rfl hS0 (by intro W hW; obtain ⟨q0, ⟨q2, q3, q4, q5, q6⟩⟩ := hW; go_simp) ?_
  try simp only [Act.put, List.setIfInBounds_toArray, List.set_cons_zero, List.set_cons_succ]
  refine AnyL.takeAt 5 (.agg #[.int .i64 yk, .int .i64 ym, .float .f64 yg, .string yx, .int .i64 yr]) rfl (by kernel_rfl) (by kernel_rfl) (by kernel_rfl) (by kernel_rfl) (fun _ _ _ h => h) rfl hS0 (by intro W hW; obtain ⟨q0, ⟨q2, q3, q4, q5, q6⟩⟩ := hW; go_simp) ?_
  try simp only [Act.put, List.setIfInBounds_toArray, List.set_cons_zero, List.set_cons_succ]
  refine AnyL.oneAt 6 rfl (by kernel_rfl) rfl ?_
  intro K hK
  go_simp
  refine (HCL _).mono ?_
  rintro e w6 ⟨rfl, g6⟩
  have K6 : Hid (Kq w3 w6) := Kq.trans (Kq.drew (Kq.refl _)) g6
  have hS6 := (show ∀ W', Kq w3 W' → W'.cell? ⟨B, 0, none⟩ = some (.slice (some ⟨g, 0, none⟩) (r + 1 + m) cap) ∧ Vc W' (W.heap.size + 1) ⟨yk, ym, yg, yx, yr⟩ from HS) w6 K6
  clear g6
  refine hK.out _ _ (fun _ => hS6) ?_
  clear hK K
  try simp only [Act.put, List.setIfInBounds_toArray, List.set_cons_zero, List.set_cons_succ]
  refine AnyL.oneAt 7 rfl (by kernel_rfl) rfl ?_
  intro K hK
  go_simp
  refine hK.out _ _ (fun _ => hS6) ?_
  clear hK K
  try simp only [Act.put, List.setIfInBounds_toArray, List.set_cons_zero, List.set_cons_succ]
  refine AnyL.oneAt 8 rfl (by kernel_rfl) rfl ?_
  intro K hK
  go_simp
  refine hK.out _ _ (fun _ => hS6) ?_
  clear hK K
  try simp only [Act.put, List.setIfInBounds_toArray, List.set_cons_zero, List.set_cons_succ]
  obtain ⟨⟨d0, d1, d2, d3, d4, d5, d6, d7, d8, d9, d10⟩, hf, hLp⟩ := (show ∀ W', Kq w3 W' → _ from HPUT) w6 K6
  have HLP : Hid (Lp w B M (setl F r m ⟨yk, ym, yg, yx, yr⟩) (.slice (some ⟨g, 0, none⟩) (r + 1 + m) cap) T (w6.setCells g (r * 11 + 5) [.int .i64 yk, .int .i64 ym, .float .f64 yg, .string yx, .int .i64 yr])) := hLp
  dsimp only at d5 d6 d7 d8 d9
  have e5 := hf (r * 11 + 5)
  have e6 := hf (r * 11 + 6)
  have e7 := hf (r * 11 + 7)
  have e8 := hf (r * 11 + 8)
  have e9 := hf (r * 11 + 9)
  clear hf hLp HPUT HS hS0
  refine AnyL.oneAt 9 rfl (by kernel_rfl) rfl ?_
  intro K hK
  go_simp
  refine hK.out _ _ (fun h => absurd rfl h) ?_
  clear hK K
  try simp only [Act.put, List.setIfInBounds_toArray, List.set_cons_zero, List.set_cons_succ]
  refine AnyL.done (by kernel_rfl) ?_
  have HE : Hid (Lp w B M (setl F r m ⟨yk, ym, yg, yx, yr⟩) (.slice (some ⟨g, 0, none⟩) (r + 1 + m) cap) T (((((w6.setCell ⟨g, r * 11 + 5, none⟩ (.int .i64 yk)).setCell ⟨g, r * 11 + 6, none⟩ (.int .i64 ym)).setCell ⟨g, r * 11 + 7, none⟩ (.float .f64 yg)).setCell ⟨g, r * 11 + 8, none⟩ (.string yx)).setCell ⟨g, r * 11 + 9, none⟩ (.int .i64 yr))) := HLP
  clear HLP K6 HCL d0 d1 d2 d3 d4 d5 d6 d7 d8 d9 d10 e5 e6 e7 e8 e9 hS6
  go_wp2_with fail
  go_end0
  exact ⟨rfl, _, _, _, HPT, HE⟩
set_option maxHeartbeats 8000000 in
theorem put_skip {w : World} {B M n : Nat} {F : Nat → Pv} {v : Value} {T : Int} (u y : Vv) (hu : kok u) (W : World) (hL : Lg w B M (lsp F n) v T W) (ht : tok n F T) (hno : ¬ met F u n) (hsk : ¬ (¬ y.k = 0 ∧ n < 500 ∧ T < 1000000000000)) : Calls Try.prog 50 #[.pointer (some ⟨B, 0, none⟩), vv u, vv y] W fun e W' => e = .returned (.tuple #[]) ∧ ∃ v' L T', Pt n F T u y L T' ∧ Lp w B M L v' T' W' := by
  have hpt : Pt n F T u y (lsp F n) T := by
    refine .inr ⟨fun h => hsk h.2, ?_, rfl⟩
    rw [putl_no n (fun j hj e => hno ⟨j, hj, e⟩) (tok_b0 ht)]
  have HPT : Hid (Pt n F T u y (lsp F n) T) := hpt
  have hnI : (n : Int) ≤ 500 := by have := ht.1; omega
  have HF0 := fun W' (q : Kq W W') => find_no u y hu W' (hL.on q) ht hno
  generalize Pt n F T u y = Pu at HPT ⊢
  clear hpt
  obtain ⟨uk, um, ug, ux, ur⟩ := u
  obtain ⟨yk, ym, yg, yx, yr⟩ := y
  obtain ⟨w2, hw2⟩ : ∃ w2, w2 = (W.alloc (.cells #[.int .i64 uk, .int .i64 um, .float .f64 ug, .string ux, .int .i64 ur] 26)).alloc (.cells #[.int .i64 yk, .int .i64 ym, .float .f64 yg, .string yx, .int .i64 yr] 26) := ⟨_, rfl⟩
  obtain ⟨x0, x1, z2, k2⟩ := two_new W _ _ _ _ w2 hw2
  have hst : ∀ (a : Addr) (n : Nat) (m : Mode) (w : World), (store a (.float .f64 n) m).run Try.prog w = stored Try.prog w a (.float .f64 n) m := fun a n m w => run_store _ _ _ _ _ rfl
  have HF : Hid (Calls Try.prog 69 #[.pointer (some ⟨B, 0, none⟩), .agg #[.int .i64 uk, .int .i64 um, .float .f64 ug, .string ux, .int .i64 ur]] w2 fun e w' => ∃ r : Nat, e = .returned (.tuple #[.int .i64 (r : Int), .bool false]) ∧ Kq w2 w') := HF0 w2 k2
  have HKX : Hid (Kq W w2 ∧ w2.heap[W.heap.size]? = some (.cells #[.int .i64 uk, .int .i64 um, .float .f64 ug, .string ux, .int .i64 ur] 26 (0, 0)) ∧ w2.heap[W.heap.size + 1]? = some (.cells #[.int .i64 yk, .int .i64 ym, .float .f64 yg, .string yx, .int .i64 yr] 26 (0, 0))) := (⟨k2, x0, x1⟩ : _ ∧ _ ∧ _)
  have HLG : Hid (Lg w B M (lsp F n) v T W) := hL
  dsimp only at hsk
  clear HF0 k2 x0 x1 z2 ht hu hno hL
  unfold vv
  dsimp only
  go_enter Try.func50, Try.ntmps50
  go_wp2_with fail
  rw [← hw2]
  clear hw2
  refine (show Calls Try.prog 69 #[.pointer (some ⟨B, 0, none⟩), .agg #[.int .i64 uk, .int .i64 um, .float .f64 ug, .string ux, .int .i64 ur]] w2 fun e w' => ∃ r : Nat, e = .returned (.tuple #[.int .i64 (r : Int), .bool false]) ∧ Kq w2 w' from HF).mono ?_
  rintro e w3 ⟨r3', rfl, k3⟩
  have hX := (show Kq W w2 ∧ w2.heap[W.heap.size]? = _ ∧ w2.heap[W.heap.size + 1]? = _ from HKX)
  have y0 := k3.cell (cell_of hX.2.2 (j := 0) rfl)
  have L3 := Lg.on HLG (hX.1.trans k3)
  have b0 := cell_of L3.ob (j := 0) rfl
  have b1 := cell_of L3.ob (j := 1) rfl
  obtain ⟨ad, cap, rfl⟩ := L3.shape
  rw [lsp_len] at b0
  have HE : Hid (Lp w B M (lsp F n) (.slice ad (lsp F n).length cap) T w3) := L3.lp
  clear hX HKX HF L3 HLG k3
  by_cases hy : yk = 0
  · have hy1 : (yk != 0) = false := by simp [hy]
    have hy2 : (yk == 0) = true := by simp [hy]
    clear hsk hy
    go_wp2_with fail
    go_end0
    exact ⟨rfl, _, _, _, HPT, HE⟩
  have hy1 : (yk != 0) = true := by simpa using hy
  have hy2 : (yk == 0) = false := by simpa using hy
  rcases Nat.lt_or_ge n 500 with h5 | h5
  case inr =>
    have h5I : ¬ (n : Int) < 500 := by omega
    clear hsk hy
    go_wp2_with fail
    go_end0
    exact ⟨rfl, _, _, _, HPT, HE⟩
  have h5I : (n : Int) < 500 := by omega
  have hTT : ¬ T < 1000000000000 := fun q => hsk ⟨hy, h5, q⟩
  clear hsk hy
  go_wp2_with fail
  go_end0
  exact ⟨rfl, _, _, _, HPT, HE⟩
set_option maxHeartbeats 8000000 in
theorem put_add {w : World} {B M n : Nat} {F : Nat → Pv} {v : Value} {T : Int} (u y : Vv) (hu : kok u) (W : World) (hL : Lg w B M (lsp F n) v T W) (ht : tok n F T) (hno : ¬ met F u n) (hy : ¬ y.k = 0) (h5 : n < 500) (hTT : T < 1000000000000) (hxu : (u.x.size : Int) ≤ 1048576) (hxy : (y.x.size : Int) ≤ 1048576) : Calls Try.prog 50 #[.pointer (some ⟨B, 0, none⟩), vv u, vv y] W fun e W' => e = .returned (.tuple #[]) ∧ ∃ v' L T', Pt n F T u y L T' ∧ Lp w B M L v' T' W' := by
  have hpt : Pt n F T u y (lsp F n ++ [⟨u, y, T + 1⟩]) (T + 1) := by
    refine .inl ⟨⟨hno, hy, h5, hTT⟩, ?_, rfl⟩
    rw [putl_no n (fun j hj e => hno ⟨j, hj, e⟩) (tok_b0 ht)]
  have HPT : Hid (Pt n F T u y (lsp F n ++ [⟨u, y, T + 1⟩]) (T + 1)) := hpt
  have hT0 : 0 ≤ T := ht.2.1
  have h5I : (n : Int) < 500 := by omega
  have HEN : Hid (∀ W', Lg w B M (lsp F n) v (T + 1) W' → Calls Try.prog 67 #[.pointer (some ⟨B, 0, none⟩), pv ⟨u, y, T + 1⟩] W' fun e W' => e = .returned (.tuple #[]) ∧ ∃ v', Lg w B M (lsp F n ++ [⟨u, y, T + 1⟩]) v' (T + 1) W') := (fun W' h => im_enter0 ⟨u, y, T + 1⟩ hu hxu hxy W' h ((look_lsp u F n).2 (fun j hj e => hno ⟨j, hj, e⟩)) (by rw [lsp_len]; omega) : ∀ W', _)
  have HF0 := fun W' (q : Kq W W') => find_no u y hu W' (hL.on q) ht hno
  generalize Pt n F T u y = Pu at HPT ⊢
  clear hpt
  obtain ⟨uk, um, ug, ux, ur⟩ := u
  obtain ⟨yk, ym, yg, yx, yr⟩ := y
  obtain ⟨w2, hw2⟩ : ∃ w2, w2 = (W.alloc (.cells #[.int .i64 uk, .int .i64 um, .float .f64 ug, .string ux, .int .i64 ur] 26)).alloc (.cells #[.int .i64 yk, .int .i64 ym, .float .f64 yg, .string yx, .int .i64 yr] 26) := ⟨_, rfl⟩
  obtain ⟨x0, x1, z2, k2⟩ := two_new W _ _ _ _ w2 hw2
  have hst : ∀ (a : Addr) (n : Nat) (m : Mode) (w : World), (store a (.float .f64 n) m).run Try.prog w = stored Try.prog w a (.float .f64 n) m := fun a n m w => run_store _ _ _ _ _ rfl
  have HF : Hid (Calls Try.prog 69 #[.pointer (some ⟨B, 0, none⟩), .agg #[.int .i64 uk, .int .i64 um, .float .f64 ug, .string ux, .int .i64 ur]] w2 fun e w' => ∃ r : Nat, e = .returned (.tuple #[.int .i64 (r : Int), .bool false]) ∧ Kq w2 w') := HF0 w2 k2
  have HKX : Hid (Kq W w2 ∧ w2.heap[W.heap.size]? = some (.cells #[.int .i64 uk, .int .i64 um, .float .f64 ug, .string ux, .int .i64 ur] 26 (0, 0)) ∧ w2.heap[W.heap.size + 1]? = some (.cells #[.int .i64 yk, .int .i64 ym, .float .f64 yg, .string yx, .int .i64 yr] 26 (0, 0))) := (⟨k2, x0, x1⟩ : _ ∧ _ ∧ _)
  have HLG : Hid (Lg w B M (lsp F n) v T W) := hL
  dsimp only at hy
  have hy1 : (yk != 0) = true := by simpa using hy
  have hy2 : (yk == 0) = false := by simpa using hy
  clear HF0 k2 x0 x1 ht hu hno hL hxu hxy hy
  unfold pv at HEN
  dsimp only at HEN
  unfold vv
  dsimp only
  go_enter Try.func50, Try.ntmps50
  go_wp2_with fail
  rw [← hw2]
  clear hw2
  refine (show Calls Try.prog 69 #[.pointer (some ⟨B, 0, none⟩), .agg #[.int .i64 uk, .int .i64 um, .float .f64 ug, .string ux, .int .i64 ur]] w2 fun e w' => ∃ r : Nat, e = .returned (.tuple #[.int .i64 (r : Int), .bool false]) ∧ Kq w2 w' from HF).mono ?_
  rintro e w3 ⟨r3', rfl, k3⟩
  have hX := (show Kq W w2 ∧ w2.heap[W.heap.size]? = _ ∧ w2.heap[W.heap.size + 1]? = _ from HKX)
  have y0 := k3.cell (cell_of hX.2.2 (j := 0) rfl)
  have L3 := Lg.on HLG (hX.1.trans k3)
  have b0 := cell_of L3.ob (j := 0) rfl
  have b1 := cell_of L3.ob (j := 1) rfl
  obtain ⟨ad, cap, rfl⟩ := L3.shape
  rw [lsp_len] at b0
  have u3 := (k3.block W.heap.size (lt_of_obj hX.2.1)).trans hX.2.1
  have v3 := (k3.block (W.heap.size + 1) (lt_of_obj hX.2.2)).trans hX.2.2
  have of1 : w3.frozen? ⟨B, 1, none⟩ = false := by simp [World.frozen?, L3.ob]
  have HL3 : Hid (Lg w B M (lsp F n) (.slice ad (lsp F n).length cap) T w3) := L3
  have hBW := Lg.lt HLG
  clear hX HKX HF L3 HLG k3
  go_upto_region 9 with fail
  clear y0 b0 b1 of1
  have HL4 : Hid (Lg w B M (lsp F n) (.slice ad (lsp F n).length cap) (T + 1) (w3.setCell ⟨B, 1, none⟩ (.int .i64 (T + 1)))) := Lg.turn HL3 (T + 1)
  have u4 := (Below.heap_setCell w3 ⟨B, 1, none⟩ (.int .i64 (T + 1)) W.heap.size (by show W.heap.size ≠ B; omega)).trans u3
  have v4 := (Below.heap_setCell w3 ⟨B, 1, none⟩ (.int .i64 (T + 1)) (W.heap.size + 1) (by show W.heap.size + 1 ≠ B; omega)).trans v3
  clear HL3 u3 v3
  generalize w3.setCell ⟨B, 1, none⟩ (.int .i64 (T + 1)) = w4 at HL4 u4 v4 ⊢
  have S4 : w4.cell? ⟨B, 1, none⟩ = some (.int .i64 (T + 1)) ∧ Vc w4 W.heap.size ⟨uk, um, ug, ux, ur⟩ ∧ Vc w4 (W.heap.size + 1) ⟨yk, ym, yg, yx, yr⟩ := ⟨cell_of (Lg.ob HL4) rfl, ⟨cell_of u4 rfl, cell_of u4 rfl, cell_of u4 rfl, cell_of u4 rfl, cell_of u4 rfl⟩, cell_of v4 rfl, cell_of v4 rfl, cell_of v4 rfl, cell_of v4 rfl, cell_of v4 rfl⟩
  have HE4 : Hid (Calls Try.prog 67 #[.pointer (some ⟨B, 0, none⟩), .agg #[.int .i64 uk, .int .i64 um, .float .f64 ug, .string ux, .int .i64 ur, .int .i64 yk, .int .i64 ym, .float .f64 yg, .string yx, .int .i64 yr, .int .i64 (T + 1)]] w4.drew fun e W' => e = .returned (.tuple #[]) ∧ ∃ v', Lg w B M (lsp F n ++ [⟨⟨uk, um, ug, ux, ur⟩, ⟨yk, ym, yg, yx, yr⟩, T + 1⟩]) v' (T + 1) W') := (show ∀ W', _ from HEN) w4.drew (Lg.on HL4 (Kq.drew (Kq.refl _)))
  clear u4 v4 HL4 HEN
  refine AnyL.region (S := fun W' : World => W'.cell? ⟨B, 1, none⟩ = some (.int .i64 (T + 1)) ∧ Vc W' W.heap.size ⟨uk, um, ug, ux, ur⟩ ∧ Vc W' (W.heap.size + 1) ⟨yk, ym, yg, yx, yr⟩) (z := 8) (by kernel_rfl) ?_
  have hS0 : (fun W' : World => W'.cell? ⟨B, 1, none⟩ = some (.int .i64 (T + 1)) ∧ Vc W' W.heap.size ⟨uk, um, ug, ux, ur⟩ ∧ Vc W' (W.heap.size + 1) ⟨yk, ym, yg, yx, yr⟩) w4.drew := ⟨(Kq.drew (Kq.refl _)).cell S4.1, S4.2.1.kq (Kq.drew (Kq.refl _)), S4.2.2.kq (Kq.drew (Kq.refl _))⟩
  refine AnyL.takeC 9 0 (.pointer (some ⟨B, 0, none⟩)) rfl (by kernel_rfl) (by kernel_rfl) (by kernel_rfl) (by kernel_rfl) (by kernel_rfl) (fun _ _ _ h => h) rfl hS0 (by intro W hW; obtain ⟨q0, ⟨q2, q3, q4, q5, q6⟩, ⟨r2, r3, r4, r5, r6⟩⟩ := hW; go_simp) ?_
  try simp only [Act.put, List.setIfInBounds_toArray, List.set_cons_zero, List.set_cons_succ]
  refine AnyL.takeC 9 1 (.agg #[.int .i64 uk, .int .i64 um, .float .f64 ug, .string ux, .int .i64 ur]) rfl (by kernel_rfl) (by kernel_rfl) (by kernel_rfl) (by kernel_rfl) (by kernel_rfl) (fun _ _ _ h => h) rfl hS0 (by intro W hW; obtain ⟨q0, ⟨q2, q3, q4, q5, q6⟩, ⟨r2, r3, r4, r5, r6⟩⟩ := hW; go_simp) ?_
  try simp only [Act.put, List.setIfInBounds_toArray, List.set_cons_zero, List.set_cons_succ]
  refine AnyL.takeC 9 2 (.agg #[.int .i64 yk, .int .i64 ym, .float .f64 yg, .string yx, .int .i64 yr]) rfl (by kernel_rfl) (by kernel_rfl) (by kernel_rfl) (by kernel_rfl) (by kernel_rfl) (fun _ _ _ h => h) rfl hS0 (by intro W hW; obtain ⟨q0, ⟨q2, q3, q4, q5, q6⟩, ⟨r2, r3, r4, r5, r6⟩⟩ := hW; go_simp) ?_
  try simp only [Act.put, List.setIfInBounds_toArray, List.set_cons_zero, List.set_cons_succ]
  refine AnyL.takeC 9 3 (.pointer (some ⟨B, 0, none⟩)) rfl (by kernel_rfl) (by kernel_rfl) (by kernel_rfl) (by kernel_rfl) (by kernel_rfl) (fun _ _ _ h => h) rfl hS0 (by intro W hW; obtain ⟨q0, ⟨q2, q3, q4, q5, q6⟩, ⟨r2, r3, r4, r5, r6⟩⟩ := hW; go_simp) ?_
  try simp only [Act.put, List.setIfInBounds_toArray, List.set_cons_zero, List.set_cons_succ]
  refine AnyL.takeC 9 4 (.pointer (some ⟨B, 0, none⟩)) rfl (by kernel_rfl) (by kernel_rfl) (by kernel_rfl) (by kernel_rfl) (by kernel_rfl) (fun _ _ _ h => h) rfl hS0 (by intro W hW; obtain ⟨q0, ⟨q2, q3, q4, q5, q6⟩, ⟨r2, r3, r4, r5, r6⟩⟩ := hW; go_simp) ?_
  try simp only [Act.put, List.setIfInBounds_toArray, List.set_cons_zero, List.set_cons_succ]
  refine AnyL.takeC 9 5 (.pointer (some ⟨B, 1, none⟩)) rfl (by kernel_rfl) (by kernel_rfl) (by kernel_rfl) (by kernel_rfl) (by kernel_rfl) (fun _ _ _ h => h) rfl hS0 (by intro W hW; obtain ⟨q0, ⟨q2, q3, q4, q5, q6⟩, ⟨r2, r3, r4, r5, r6⟩⟩ := hW; go_simp) ?_
  try simp only [Act.put, List.setIfInBounds_toArray, List.set_cons_zero, List.set_cons_succ]
  refine AnyL.takeC 9 6 (.int .i64 (T + 1)) rfl (by kernel_rfl) (by kernel_rfl) (by kernel_rfl) (by kernel_rfl) (by kernel_rfl) (fun _ _ _ h => h) rfl hS0 (by intro W hW; obtain ⟨q0, ⟨q2, q3, q4, q5, q6⟩, ⟨r2, r3, r4, r5, r6⟩⟩ := hW; go_simp) ?_
  try simp only [Act.put, List.setIfInBounds_toArray, List.set_cons_zero, List.set_cons_succ]
  refine AnyL.takeC 9 7 (.agg #[.int .i64 uk, .int .i64 um, .float .f64 ug, .string ux, .int .i64 ur, .int .i64 yk, .int .i64 ym, .float .f64 yg, .string yx, .int .i64 yr, .int .i64 (T + 1)]) rfl (by kernel_rfl) (by kernel_rfl) (by kernel_rfl) (by kernel_rfl) (by kernel_rfl) (fun _ _ _ h => h) rfl hS0 (by intro W hW; obtain ⟨q0, ⟨q2, q3, q4, q5, q6⟩, ⟨r2, r3, r4, r5, r6⟩⟩ := hW; go_simp) ?_
  try simp only [Act.put, List.setIfInBounds_toArray, List.set_cons_zero, List.set_cons_succ]
  refine AnyL.oneAt 8 rfl (by kernel_rfl) rfl ?_
  intro K hK
  go_simp
  refine (show Calls Try.prog 67 _ w4.drew _ from HE4).mono ?_
  rintro e w6 ⟨rfl, v6, l6⟩
  have HE : Hid (Lp w B M (lsp F n ++ [⟨⟨uk, um, ug, ux, ur⟩, ⟨yk, ym, yg, yx, yr⟩, T + 1⟩]) v6 (T + 1) w6) := l6.lp
  refine hK.out _ _ (fun h => absurd rfl h) ?_
  clear hK K
  try simp only [Act.put, List.setIfInBounds_toArray, List.set_cons_zero, List.set_cons_succ]
  refine AnyL.done (by kernel_rfl) ?_
  clear hS0 S4 HE4 l6
  go_wp2_with fail
  go_end0
  exact ⟨rfl, _, _, _, HPT, HE⟩
theorem im_lput {w : World} {B M n : Nat} {F : Nat → Pv} {v : Value} {T : Int} (u y : Vv) (hu : kok u) (W : World) (hL : Lg w B M (lsp F n) v T W) (ht : tok n F T) (hxu : (u.x.size : Int) ≤ 1048576) (hxy : (y.x.size : Int) ≤ 1048576) : Calls Try.prog 50 #[.pointer (some ⟨B, 0, none⟩), vv u, vv y] W fun e W' => e = .returned (.tuple #[]) ∧ ∃ v' L T', Pt n F T u y L T' ∧ Lp w B M L v' T' W' := by
  by_cases hmt : met F u n
  · obtain ⟨r, hr, hm⟩ := hmt
    obtain ⟨m, rfl⟩ : ∃ m, n = r + 1 + m := ⟨n - (r + 1), by omega⟩
    by_cases hy : y.k = 0
    · exact put_del u y hu W hL ht hm hy
    · exact put_set u y hu W hL ht hm hy hxy
  · by_cases hsk : ¬ y.k = 0 ∧ n < 500 ∧ T < 1000000000000
    · exact put_add u y hu W hL ht hmt hsk.1 hsk.2.1 hsk.2.2 hxu hxy
    · exact put_skip u y hu W hL ht hmt hsk
end Go.Proofs.Ytfpidccjcemcjaa
namespace Go.Proofs.Ytfpidccjcemcjaa
open Go.ChangeShapes Go.WideShapes Go.ChangeAt Go.RowKit
set_option linter.unusedVariables false
set_option maxRecDepth 100000
set_option maxHeartbeats 16000000 in
theorem im_put {v : Value} {g0 n : Nat} {F : Nat → Pv} (T : Int) (ky : Vv) (c : Int) (u y : Vv) (hy : Ky ky c u) (kb : Vb ky) (hxk : (ky.x.size : Int) ≤ 1048576) (hxy : (y.x.size : Int) ≤ 1048576) (huk : c = 0 → Uk u) (w : World) (ha : OwnP w v g0 n F) (tb : Tb n F) : Calls Try.prog 23 #[.agg #[v, .int .i64 T], vv ky, vv y] w fun e w' => ∃ v' L T', e = .returned (.agg #[v', .int .i64 T']) ∧ PtA n F T c u y L T' ∧ w'.ownsRow w.heap.size 51 11 v' L.length (L.flatMap pcl) ∧ Kq w w' := by
  obtain ⟨pa, ca, rfl, ha2⟩ := ha.sl
  have HKEY := fun w => im_key hy hxk kb.g w
  have HVOK := fun w => im_ok y hxy w
  have HPUT : Hid (tok n F T → c = 0 → ∀ W0 B M v' W, Lg W0 B M (lsp F n) v' T W → Calls Try.prog 50 #[.pointer (some ⟨B, 0, none⟩), vv u, vv y] W fun e W' => e = .returned (.tuple #[]) ∧ ∃ v' L T', Pt n F T u y L T' ∧ Lp W0 B M L v' T' W') := (fun ht hc W0 B M v' W hL => im_lput u y (huk hc).key W hL ht (huk hc).sz hxy : tok n F T → c = 0 → _)
  have HPT : Hid ((¬ (tok n F T ∧ vok y ∧ c = 0) → PtA n F T c u y [] 0) ∧ (∀ L T', tok n F T → vok y → c = 0 → Pt n F T u y L T' → PtA n F T c u y L T')) := (⟨fun h => .inl ⟨h, rfl, rfl⟩, fun L T' h1 h2 h3 h4 => .inr ⟨⟨h1, h2, h3⟩, h4⟩⟩ : _ ∧ _)
  obtain ⟨w4, hw4⟩ : ∃ w4, w4 = (((w.alloc (.cells #[.slice pa n ca, .int .i64 T] 40)).alloc (.cells #[.int .i64 ky.k, .int .i64 ky.m, .float .f64 ky.g, .string ky.x, .int .i64 ky.r] 26)).alloc (.cells #[.int .i64 y.k, .int .i64 y.m, .float .f64 y.g, .string y.x, .int .i64 y.r] 26)).alloc (.cells #[.slice none 0 0, .int .i64 0] 40) := ⟨_, rfl⟩
  obtain ⟨x0, x1, x2, x3, z4, k4⟩ := four_new w _ _ _ _ _ _ _ _ w4 hw4
  have HLO : Hid (Calls Try.prog 43 #[.agg #[.slice pa n ca, .int .i64 T]] w4 fun e w' => ∃ (okb : Bool) (pl : Value), e = .returned (.tuple #[pl, .bool okb]) ∧ Kq w4 w' ∧ ((okb = false ∧ ¬ tok n F T ∧ pl = .pointer none) ∨ (okb = true ∧ tok n F T ∧ ∃ B M v', pl = .pointer (some ⟨B, 0, none⟩) ∧ Lg w4 B M (lsp F n) v' T w'))) := (by
    refine (im_ledger T w4 (ha.kq k4) tb).mono ?_
    rintro e w' (⟨ht, he, k⟩ | ⟨ht, B, M, v', he, l⟩)
    · exact ⟨false, _, he, k, .inl ⟨rfl, ht, rfl⟩⟩
    · exact ⟨true, _, he, l.kq, .inr ⟨rfl, ht, B, M, v', rfl, l⟩⟩ : Calls Try.prog 43 #[.agg #[.slice pa n ca, .int .i64 T]] w4 _)
  clear ha ha2 tb hy kb hxk hxy huk
  generalize PtA n F T c u y = Pu at HPT ⊢
  generalize Pt n F T u y = Pq at HPT HPUT
  generalize tok n F T = tk at HPT HLO HPUT
  generalize vok y = vk at HPT HVOK
  obtain ⟨uk, um, ug, ux, ur⟩ := u
  obtain ⟨yk, ym, yg, yx, yr⟩ := y
  obtain ⟨k, m, g, x, r⟩ := ky
  unfold vv at HKEY HVOK HPUT ⊢
  unfold va at HKEY
  dsimp only at HKEY HVOK HPUT hw4 x0 x1 x2 x3 ⊢
  have HW4 : Hid (Kq w w4 ∧ w4.heap[w.heap.size]? = some (.cells #[.slice pa n ca, .int .i64 T] 40 (0, 0)) ∧ w4.heap[w.heap.size + 1]? = some (.cells #[.int .i64 k, .int .i64 m, .float .f64 g, .string x, .int .i64 r] 26 (0, 0)) ∧ w4.heap[w.heap.size + 2]? = some (.cells #[.int .i64 yk, .int .i64 ym, .float .f64 yg, .string yx, .int .i64 yr] 26 (0, 0)) ∧ w4.heap[w.heap.size + 3]? = some (.cells #[.slice none 0 0, .int .i64 0] 40 (0, 0)) ∧ w4.heap.size = w.heap.size + 4) := (⟨k4, x0, x1, x2, x3, z4⟩ : _ ∧ _ ∧ _ ∧ _ ∧ _ ∧ _)
  have hst : ∀ (a : Addr) (n : Nat) (m : Mode) (w : World), (store a (.float .f64 n) m).run Try.prog w = stored Try.prog w a (.float .f64 n) m := fun a n m w => run_store _ _ _ _ _ rfl
  clear x0 x1 x2 x3 z4 k4
  go_enter Try.func23, Try.ntmps23
  go_wp2_with fail
  rw [← hw4]
  clear hw4
  refine (show Calls Try.prog 43 _ w4 _ from HLO).mono ?_
  rintro e w5 ⟨okb, pl, rfl, k5, hcase⟩
  have HC : Hid ((okb = false ∧ ¬ tk ∧ pl = .pointer none) ∨ (okb = true ∧ tk ∧ ∃ B M v', pl = .pointer (some ⟨B, 0, none⟩) ∧ Lg w4 B M (lsp F n) v' T w5)) := hcase
  have HK5 : Hid (Kq w4 w5) := k5
  have hW := (show Kq w w4 ∧ w4.heap[w.heap.size]? = some (.cells #[.slice pa n ca, .int .i64 T] 40 (0, 0)) ∧ w4.heap[w.heap.size + 1]? = some (.cells #[.int .i64 k, .int .i64 m, .float .f64 g, .string x, .int .i64 r] 26 (0, 0)) ∧ w4.heap[w.heap.size + 2]? = some (.cells #[.int .i64 yk, .int .i64 ym, .float .f64 yg, .string yx, .int .i64 yr] 26 (0, 0)) ∧ w4.heap[w.heap.size + 3]? = some (.cells #[.slice none 0 0, .int .i64 0] 40 (0, 0)) ∧ w4.heap.size = w.heap.size + 4 from HW4)
  have v0 := k5.cell (cell_of hW.2.2.1 (j := 0) rfl)
  have v1 := k5.cell (cell_of hW.2.2.1 (j := 1) rfl)
  have v2 := k5.cell (cell_of hW.2.2.1 (j := 2) rfl)
  have v3 := k5.cell (cell_of hW.2.2.1 (j := 3) rfl)
  have v4 := k5.cell (cell_of hW.2.2.1 (j := 4) rfl)
  clear hW HLO hcase k5
  go_upto_region 2 with fail
  go_wp2_with fail
  refine (HKEY _).mono ?_
  rintro e w6 ⟨rfl, k6⟩
  clear v0 v1 v2 v3 v4 HKEY
  go_upto_region 3 with fail
  have HA7 : Hid (Ac (w6.alloc (.cells #[.int .i64 c, .int .i64 uk, .int .i64 um, .float .f64 ug, .string ux, .int .i64 ur] 28)) w6.heap.size c ⟨uk, um, ug, ux, ur⟩) := Ac.new _ _ _ _ _ _ _ _
  have HK57 : Hid (Kq w5 (w6.alloc (.cells #[.int .i64 c, .int .i64 uk, .int .i64 um, .float .f64 ug, .string ux, .int .i64 ur] 28))) := k6.trans (kq_alloc _ _ _)
  clear k6
  generalize w6.alloc (.cells #[.int .i64 c, .int .i64 uk, .int .i64 um, .float .f64 ug, .string ux, .int .i64 ur] 28) = w7 at HA7 HK57 ⊢
  generalize w6.heap.size = VB at HA7 ⊢
  have HK7 : Hid (Kq w4 w7) := Kq.trans HK5 HK57
  obtain ⟨a0, a1, a2, a3, a4, a5⟩ := (show Ac w7 VB c ⟨uk, um, ug, ux, ur⟩ from HA7)
  dsimp only at a0 a1 a2 a3 a4 a5
  rcases (show (okb = false ∧ ¬ tk ∧ pl = .pointer none) ∨ (okb = true ∧ tk ∧ ∃ B M v', pl = .pointer (some ⟨B, 0, none⟩) ∧ Lg w4 B M (lsp F n) v' T w5) from HC) with ⟨rfl, ht, rfl⟩ | ⟨rfl, ht, B, M, v', rfl, l5⟩
  case inl =>
    have hp : Pu [] 0 := (show (¬ (tk ∧ vk ∧ c = 0) → Pu [] 0) ∧ _ from HPT).1 (fun q => ht q.1)
    obtain ⟨r0, r1, z0, z1, e0, e1, hrow, hkq⟩ := tab_fin (show Kq w w4 ∧ w4.heap[w.heap.size]? = some (.cells #[.slice pa n ca, .int .i64 T] 40 (0, 0)) ∧ w4.heap[w.heap.size + 1]? = some (.cells #[.int .i64 k, .int .i64 m, .float .f64 g, .string x, .int .i64 r] 26 (0, 0)) ∧ w4.heap[w.heap.size + 2]? = some (.cells #[.int .i64 yk, .int .i64 ym, .float .f64 yg, .string yx, .int .i64 yr] 26 (0, 0)) ∧ w4.heap[w.heap.size + 3]? = some (.cells #[.slice none 0 0, .int .i64 0] 40 (0, 0)) ∧ w4.heap.size = w.heap.size + 4 from HW4).1 (show Kq w4 w7 from HK7) (show Kq w w4 ∧ w4.heap[w.heap.size]? = some (.cells #[.slice pa n ca, .int .i64 T] 40 (0, 0)) ∧ w4.heap[w.heap.size + 1]? = some (.cells #[.int .i64 k, .int .i64 m, .float .f64 g, .string x, .int .i64 r] 26 (0, 0)) ∧ w4.heap[w.heap.size + 2]? = some (.cells #[.int .i64 yk, .int .i64 ym, .float .f64 yg, .string yx, .int .i64 yr] 26 (0, 0)) ∧ w4.heap[w.heap.size + 3]? = some (.cells #[.slice none 0 0, .int .i64 0] 40 (0, 0)) ∧ w4.heap.size = w.heap.size + 4 from HW4).2.2.2.2.2 (show Kq w w4 ∧ w4.heap[w.heap.size]? = some (.cells #[.slice pa n ca, .int .i64 T] 40 (0, 0)) ∧ w4.heap[w.heap.size + 1]? = some (.cells #[.int .i64 k, .int .i64 m, .float .f64 g, .string x, .int .i64 r] 26 (0, 0)) ∧ w4.heap[w.heap.size + 2]? = some (.cells #[.int .i64 yk, .int .i64 ym, .float .f64 yg, .string yx, .int .i64 yr] 26 (0, 0)) ∧ w4.heap[w.heap.size + 3]? = some (.cells #[.slice none 0 0, .int .i64 0] 40 (0, 0)) ∧ w4.heap.size = w.heap.size + 4 from HW4).2.2.2.2.1 (.slice none 0 0) (0)
    have HFI : Hid (Pu ([] : List Pv) (0) ∧ (s2 w7 (w.heap.size + 3) (.slice none 0 0) (.int .i64 (0))).ownsRow w.heap.size 51 11 (.slice none 0 0) (([] : List Pv)).length ((([] : List Pv)).flatMap pcl) ∧ Kq w (s2 w7 (w.heap.size + 3) (.slice none 0 0) (.int .i64 (0)))) := (⟨hp, hrow _ _ _ (Nat.le_refl _) (World.ownsRow_nil _ _ _ _), hkq⟩ : _ ∧ _ ∧ _)
    clear hrow hkq
    clear HPT HPUT HVOK HW4 HK7 HK5 HK57 HA7 HC hp ht
    go_wp2_with fail
    obtain ⟨WF, hWF⟩ : ∃ WF, WF = s2 w7 (w.heap.size + 3) (.slice none 0 0) (.int .i64 (0)) := ⟨_, rfl⟩
    rw [← hWF] at e0 e1 HFI
    have hWF' := hWF
    unfold s2 at hWF'
    rw [← hWF']
    clear hWF hWF'
    refine bodyPost_ret (by simp [results, Try.results23, go_sem, e0, e1]; rfl) rfl ?_
    obtain ⟨h1, h2, h3⟩ := (show _ ∧ _ ∧ _ from HFI)
    exact ⟨(.slice none 0 0), ([] : List Pv), 0, rfl, h1, h2, h3⟩
  by_cases hc : c = 0
  case neg =>
    have hcb : (c != 0) = true := by simpa using hc
    have hp : Pu [] 0 := (show (¬ (tk ∧ vk ∧ c = 0) → Pu [] 0) ∧ _ from HPT).1 (fun q => hc q.2.2)
    obtain ⟨r0, r1, z0, z1, e0, e1, hrow, hkq⟩ := tab_fin (show Kq w w4 ∧ w4.heap[w.heap.size]? = some (.cells #[.slice pa n ca, .int .i64 T] 40 (0, 0)) ∧ w4.heap[w.heap.size + 1]? = some (.cells #[.int .i64 k, .int .i64 m, .float .f64 g, .string x, .int .i64 r] 26 (0, 0)) ∧ w4.heap[w.heap.size + 2]? = some (.cells #[.int .i64 yk, .int .i64 ym, .float .f64 yg, .string yx, .int .i64 yr] 26 (0, 0)) ∧ w4.heap[w.heap.size + 3]? = some (.cells #[.slice none 0 0, .int .i64 0] 40 (0, 0)) ∧ w4.heap.size = w.heap.size + 4 from HW4).1 (show Kq w4 w7 from HK7) (show Kq w w4 ∧ w4.heap[w.heap.size]? = some (.cells #[.slice pa n ca, .int .i64 T] 40 (0, 0)) ∧ w4.heap[w.heap.size + 1]? = some (.cells #[.int .i64 k, .int .i64 m, .float .f64 g, .string x, .int .i64 r] 26 (0, 0)) ∧ w4.heap[w.heap.size + 2]? = some (.cells #[.int .i64 yk, .int .i64 ym, .float .f64 yg, .string yx, .int .i64 yr] 26 (0, 0)) ∧ w4.heap[w.heap.size + 3]? = some (.cells #[.slice none 0 0, .int .i64 0] 40 (0, 0)) ∧ w4.heap.size = w.heap.size + 4 from HW4).2.2.2.2.2 (show Kq w w4 ∧ w4.heap[w.heap.size]? = some (.cells #[.slice pa n ca, .int .i64 T] 40 (0, 0)) ∧ w4.heap[w.heap.size + 1]? = some (.cells #[.int .i64 k, .int .i64 m, .float .f64 g, .string x, .int .i64 r] 26 (0, 0)) ∧ w4.heap[w.heap.size + 2]? = some (.cells #[.int .i64 yk, .int .i64 ym, .float .f64 yg, .string yx, .int .i64 yr] 26 (0, 0)) ∧ w4.heap[w.heap.size + 3]? = some (.cells #[.slice none 0 0, .int .i64 0] 40 (0, 0)) ∧ w4.heap.size = w.heap.size + 4 from HW4).2.2.2.2.1 (.slice none 0 0) (0)
    have HFI : Hid (Pu ([] : List Pv) (0) ∧ (s2 w7 (w.heap.size + 3) (.slice none 0 0) (.int .i64 (0))).ownsRow w.heap.size 51 11 (.slice none 0 0) (([] : List Pv)).length ((([] : List Pv)).flatMap pcl) ∧ Kq w (s2 w7 (w.heap.size + 3) (.slice none 0 0) (.int .i64 (0)))) := (⟨hp, hrow _ _ _ (Nat.le_refl _) (World.ownsRow_nil _ _ _ _), hkq⟩ : _ ∧ _ ∧ _)
    clear hrow hkq
    clear HPT HPUT HVOK HW4 HK7 HK5 HK57 HA7 HC hp ht hc l5
    go_wp2_with fail
    obtain ⟨WF, hWF⟩ : ∃ WF, WF = s2 w7 (w.heap.size + 3) (.slice none 0 0) (.int .i64 (0)) := ⟨_, rfl⟩
    rw [← hWF] at e0 e1 HFI
    have hWF' := hWF
    unfold s2 at hWF'
    rw [← hWF']
    clear hWF hWF'
    refine bodyPost_ret (by simp [results, Try.results23, go_sem, e0, e1]; rfl) rfl ?_
    obtain ⟨h1, h2, h3⟩ := (show _ ∧ _ ∧ _ from HFI)
    exact ⟨(.slice none 0 0), ([] : List Pv), 0, rfl, h1, h2, h3⟩
  have hcb : (c != 0) = false := by simp [hc]
  have HL7 : Hid (Lg w4 B M (lsp F n) v' T w7) := l5.on HK57
  have hW := (show Kq w w4 ∧ w4.heap[w.heap.size]? = some (.cells #[.slice pa n ca, .int .i64 T] 40 (0, 0)) ∧ w4.heap[w.heap.size + 1]? = some (.cells #[.int .i64 k, .int .i64 m, .float .f64 g, .string x, .int .i64 r] 26 (0, 0)) ∧ w4.heap[w.heap.size + 2]? = some (.cells #[.int .i64 yk, .int .i64 ym, .float .f64 yg, .string yx, .int .i64 yr] 26 (0, 0)) ∧ w4.heap[w.heap.size + 3]? = some (.cells #[.slice none 0 0, .int .i64 0] 40 (0, 0)) ∧ w4.heap.size = w.heap.size + 4 from HW4)
  have y0 := Kq.cell HK7 (cell_of hW.2.2.2.1 (j := 0) rfl)
  have y1 := Kq.cell HK7 (cell_of hW.2.2.2.1 (j := 1) rfl)
  have y2 := Kq.cell HK7 (cell_of hW.2.2.2.1 (j := 2) rfl)
  have y3 := Kq.cell HK7 (cell_of hW.2.2.2.1 (j := 3) rfl)
  have y4 := Kq.cell HK7 (cell_of hW.2.2.2.1 (j := 4) rfl)
  clear hW HC l5 HK57 HK5
  go_wp2_with fail
  refine (HVOK _).mono ?_
  rintro e w8 ⟨rfl, g8⟩
  have HK8 : Hid (Kq w4 w8) := Kq.trans HK7 (.of_grown g8)
  have HL8 : Hid (Lg w4 B M (lsp F n) v' T w8) := Lg.on HL7 (.of_grown g8)
  have HA8 : Hid (Ac w8 VB c ⟨uk, um, ug, ux, ur⟩) := (show Ac w7 VB c ⟨uk, um, ug, ux, ur⟩ from HA7).kq (.of_grown g8)
  clear y0 y1 y2 y3 y4 HVOK g8 HK7 HA7 HL7 a0 a1 a2 a3 a4 a5
  by_cases hv : vk
  case neg =>
    rw [dc_f hv]
    have hp : Pu [] 0 := (show (¬ (tk ∧ vk ∧ c = 0) → Pu [] 0) ∧ _ from HPT).1 (fun q => hv q.2.1)
    obtain ⟨r0, r1, z0, z1, e0, e1, hrow, hkq⟩ := tab_fin (show Kq w w4 ∧ w4.heap[w.heap.size]? = some (.cells #[.slice pa n ca, .int .i64 T] 40 (0, 0)) ∧ w4.heap[w.heap.size + 1]? = some (.cells #[.int .i64 k, .int .i64 m, .float .f64 g, .string x, .int .i64 r] 26 (0, 0)) ∧ w4.heap[w.heap.size + 2]? = some (.cells #[.int .i64 yk, .int .i64 ym, .float .f64 yg, .string yx, .int .i64 yr] 26 (0, 0)) ∧ w4.heap[w.heap.size + 3]? = some (.cells #[.slice none 0 0, .int .i64 0] 40 (0, 0)) ∧ w4.heap.size = w.heap.size + 4 from HW4).1 (show Kq w4 w8 from HK8) (show Kq w w4 ∧ w4.heap[w.heap.size]? = some (.cells #[.slice pa n ca, .int .i64 T] 40 (0, 0)) ∧ w4.heap[w.heap.size + 1]? = some (.cells #[.int .i64 k, .int .i64 m, .float .f64 g, .string x, .int .i64 r] 26 (0, 0)) ∧ w4.heap[w.heap.size + 2]? = some (.cells #[.int .i64 yk, .int .i64 ym, .float .f64 yg, .string yx, .int .i64 yr] 26 (0, 0)) ∧ w4.heap[w.heap.size + 3]? = some (.cells #[.slice none 0 0, .int .i64 0] 40 (0, 0)) ∧ w4.heap.size = w.heap.size + 4 from HW4).2.2.2.2.2 (show Kq w w4 ∧ w4.heap[w.heap.size]? = some (.cells #[.slice pa n ca, .int .i64 T] 40 (0, 0)) ∧ w4.heap[w.heap.size + 1]? = some (.cells #[.int .i64 k, .int .i64 m, .float .f64 g, .string x, .int .i64 r] 26 (0, 0)) ∧ w4.heap[w.heap.size + 2]? = some (.cells #[.int .i64 yk, .int .i64 ym, .float .f64 yg, .string yx, .int .i64 yr] 26 (0, 0)) ∧ w4.heap[w.heap.size + 3]? = some (.cells #[.slice none 0 0, .int .i64 0] 40 (0, 0)) ∧ w4.heap.size = w.heap.size + 4 from HW4).2.2.2.2.1 (.slice none 0 0) (0)
    have HFI : Hid (Pu ([] : List Pv) (0) ∧ (s2 w8 (w.heap.size + 3) (.slice none 0 0) (.int .i64 (0))).ownsRow w.heap.size 51 11 (.slice none 0 0) (([] : List Pv)).length ((([] : List Pv)).flatMap pcl) ∧ Kq w (s2 w8 (w.heap.size + 3) (.slice none 0 0) (.int .i64 (0)))) := (⟨hp, hrow _ _ _ (Nat.le_refl _) (World.ownsRow_nil _ _ _ _), hkq⟩ : _ ∧ _ ∧ _)
    clear hrow hkq
    clear HPT HPUT HW4 HK8 HA8 HL8 hp hv hc ht
    go_wp2_with fail
    obtain ⟨WF, hWF⟩ : ∃ WF, WF = s2 w8 (w.heap.size + 3) (.slice none 0 0) (.int .i64 (0)) := ⟨_, rfl⟩
    rw [← hWF] at e0 e1 HFI
    have hWF' := hWF
    unfold s2 at hWF'
    rw [← hWF']
    clear hWF hWF'
    refine bodyPost_ret (by simp [results, Try.results23, go_sem, e0, e1]; rfl) rfl ?_
    obtain ⟨h1, h2, h3⟩ := (show _ ∧ _ ∧ _ from HFI)
    exact ⟨(.slice none 0 0), ([] : List Pv), 0, rfl, h1, h2, h3⟩
  rw [dc_t hv]
  obtain ⟨a0, a1, a2, a3, a4, a5⟩ := (show Ac w8 VB c ⟨uk, um, ug, ux, ur⟩ from HA8)
  dsimp only at a0 a1 a2 a3 a4 a5
  have hW := (show Kq w w4 ∧ w4.heap[w.heap.size]? = some (.cells #[.slice pa n ca, .int .i64 T] 40 (0, 0)) ∧ w4.heap[w.heap.size + 1]? = some (.cells #[.int .i64 k, .int .i64 m, .float .f64 g, .string x, .int .i64 r] 26 (0, 0)) ∧ w4.heap[w.heap.size + 2]? = some (.cells #[.int .i64 yk, .int .i64 ym, .float .f64 yg, .string yx, .int .i64 yr] 26 (0, 0)) ∧ w4.heap[w.heap.size + 3]? = some (.cells #[.slice none 0 0, .int .i64 0] 40 (0, 0)) ∧ w4.heap.size = w.heap.size + 4 from HW4)
  have y0 := Kq.cell HK8 (cell_of hW.2.2.2.1 (j := 0) rfl)
  have y1 := Kq.cell HK8 (cell_of hW.2.2.2.1 (j := 1) rfl)
  have y2 := Kq.cell HK8 (cell_of hW.2.2.2.1 (j := 2) rfl)
  have y3 := Kq.cell HK8 (cell_of hW.2.2.2.1 (j := 3) rfl)
  have y4 := Kq.cell HK8 (cell_of hW.2.2.2.1 (j := 4) rfl)
  have HP8 : Hid (Calls Try.prog 50 #[.pointer (some ⟨B, 0, none⟩), .agg #[.int .i64 uk, .int .i64 um, .float .f64 ug, .string ux, .int .i64 ur], .agg #[.int .i64 yk, .int .i64 ym, .float .f64 yg, .string yx, .int .i64 yr]] w8 fun e W' => e = .returned (.tuple #[]) ∧ ∃ v' L T', Pq L T' ∧ Lp w4 B M L v' T' W') := (show tk → c = 0 → _ from HPUT) ht hc w4 B M v' w8 HL8
  have HPS : Hid (∀ L T', Pq L T' → Pu L T') := (fun L T' h => (show _ ∧ (∀ L T', tk → vk → c = 0 → Pq L T' → Pu L T') from HPT).2 L T' ht hv hc h : ∀ L T', _)
  clear hW HPUT HPT ht hv hc HA8 HL8 HK8
  go_wp2_with fail
  refine (show Calls Try.prog 50 #[.pointer (some ⟨B, 0, none⟩), .agg #[.int .i64 uk, .int .i64 um, .float .f64 ug, .string ux, .int .i64 ur], .agg #[.int .i64 yk, .int .i64 ym, .float .f64 yg, .string yx, .int .i64 yr]] w8 fun e W' => e = .returned (.tuple #[]) ∧ ∃ v' L T', Pq L T' ∧ Lp w4 B M L v' T' W' from HP8).mono ?_
  rintro e w9 ⟨rfl, v9, L, T', hpq, l9⟩
  obtain ⟨ad, cap, rfl⟩ := row_shape l9.row
  have hp : Pu L T' := (show ∀ L T', Pq L T' → Pu L T' from HPS) L T' hpq
  have l9' := l9.on (Kq.drew (Kq.refl w9))
  have HK9 : Hid (Kq w4 w9.drew) := l9'.kq
  have hz9 : w.heap.size + 4 ≤ B + 1 := by have h1 := (show Kq w w4 ∧ w4.heap[w.heap.size]? = some (.cells #[.slice pa n ca, .int .i64 T] 40 (0, 0)) ∧ w4.heap[w.heap.size + 1]? = some (.cells #[.int .i64 k, .int .i64 m, .float .f64 g, .string x, .int .i64 r] 26 (0, 0)) ∧ w4.heap[w.heap.size + 2]? = some (.cells #[.int .i64 yk, .int .i64 ym, .float .f64 yg, .string yx, .int .i64 yr] 26 (0, 0)) ∧ w4.heap[w.heap.size + 3]? = some (.cells #[.slice none 0 0, .int .i64 0] 40 (0, 0)) ∧ w4.heap.size = w.heap.size + 4 from HW4).2.2.2.2.2; have h2 := l9.lo; have h3 := l9.mb; omega
  obtain ⟨r0, r1, z0, z1, e0, e1, hrow, hkq⟩ := tab_fin (show Kq w w4 ∧ w4.heap[w.heap.size]? = some (.cells #[.slice pa n ca, .int .i64 T] 40 (0, 0)) ∧ w4.heap[w.heap.size + 1]? = some (.cells #[.int .i64 k, .int .i64 m, .float .f64 g, .string x, .int .i64 r] 26 (0, 0)) ∧ w4.heap[w.heap.size + 2]? = some (.cells #[.int .i64 yk, .int .i64 ym, .float .f64 yg, .string yx, .int .i64 yr] 26 (0, 0)) ∧ w4.heap[w.heap.size + 3]? = some (.cells #[.slice none 0 0, .int .i64 0] 40 (0, 0)) ∧ w4.heap.size = w.heap.size + 4 from HW4).1 (show Kq w4 w9.drew from HK9) (show Kq w w4 ∧ w4.heap[w.heap.size]? = some (.cells #[.slice pa n ca, .int .i64 T] 40 (0, 0)) ∧ w4.heap[w.heap.size + 1]? = some (.cells #[.int .i64 k, .int .i64 m, .float .f64 g, .string x, .int .i64 r] 26 (0, 0)) ∧ w4.heap[w.heap.size + 2]? = some (.cells #[.int .i64 yk, .int .i64 ym, .float .f64 yg, .string yx, .int .i64 yr] 26 (0, 0)) ∧ w4.heap[w.heap.size + 3]? = some (.cells #[.slice none 0 0, .int .i64 0] 40 (0, 0)) ∧ w4.heap.size = w.heap.size + 4 from HW4).2.2.2.2.2 (show Kq w w4 ∧ w4.heap[w.heap.size]? = some (.cells #[.slice pa n ca, .int .i64 T] 40 (0, 0)) ∧ w4.heap[w.heap.size + 1]? = some (.cells #[.int .i64 k, .int .i64 m, .float .f64 g, .string x, .int .i64 r] 26 (0, 0)) ∧ w4.heap[w.heap.size + 2]? = some (.cells #[.int .i64 yk, .int .i64 ym, .float .f64 yg, .string yx, .int .i64 yr] 26 (0, 0)) ∧ w4.heap[w.heap.size + 3]? = some (.cells #[.slice none 0 0, .int .i64 0] 40 (0, 0)) ∧ w4.heap.size = w.heap.size + 4 from HW4).2.2.2.2.1 (.slice ad L.length cap) (T')
  have HFI : Hid (Pu L (T') ∧ (s2 w9.drew (w.heap.size + 3) (.slice ad L.length cap) (.int .i64 (T'))).ownsRow w.heap.size 51 11 (.slice ad L.length cap) (L).length ((L).flatMap pcl) ∧ Kq w (s2 w9.drew (w.heap.size + 3) (.slice ad L.length cap) (.int .i64 (T')))) := (⟨hp, hrow _ _ _ hz9 l9'.row, hkq⟩ : _ ∧ _ ∧ _)
  clear hrow hkq
  have c0 := cell_of l9.ob (j := 0) rfl
  have c1 := cell_of l9.ob (j := 1) rfl
  have hS0 : (fun W' : World => W'.cell? ⟨B, 0, none⟩ = some (.slice ad L.length cap) ∧ W'.cell? ⟨B, 1, none⟩ = some (.int .i64 T')) w9.drew := ⟨(Kq.drew (Kq.refl w9)).cell c0, (Kq.drew (Kq.refl w9)).cell c1⟩
  clear HP8 HPS hpq l9 l9' HK9 hp HW4 y0 y1 y2 y3 y4 a0 a1 a2 a3 a4 a5 c0 c1
  go_wp2_with fail
  refine AnyL.region (S := fun W' : World => W'.cell? ⟨B, 0, none⟩ = some (.slice ad L.length cap) ∧ W'.cell? ⟨B, 1, none⟩ = some (.int .i64 T')) (z := 9) (by kernel_rfl) ?_
  refine AnyL.takeAt 0 (.pointer (some ⟨B, 0, none⟩)) rfl (by kernel_rfl) (by kernel_rfl) (by kernel_rfl) (by kernel_rfl) (fun _ _ _ h => h) rfl hS0 (by intro W hW; obtain ⟨q0, q1⟩ := hW; go_simp) ?_
  try simp only [Act.put, List.setIfInBounds_toArray, List.set_cons_zero, List.set_cons_succ]
  refine AnyL.takeAt 1 (.pointer (some ⟨B, 0, none⟩)) rfl (by kernel_rfl) (by kernel_rfl) (by kernel_rfl) (by kernel_rfl) (fun _ _ _ h => h) rfl hS0 (by intro W hW; obtain ⟨q0, q1⟩ := hW; go_simp) ?_
  try simp only [Act.put, List.setIfInBounds_toArray, List.set_cons_zero, List.set_cons_succ]
  refine AnyL.takeAt 2 (.pointer (some ⟨B, 0, none⟩)) rfl (by kernel_rfl) (by kernel_rfl) (by kernel_rfl) (by kernel_rfl) (fun _ _ _ h => h) rfl hS0 (by intro W hW; obtain ⟨q0, q1⟩ := hW; go_simp) ?_
  try simp only [Act.put, List.setIfInBounds_toArray, List.set_cons_zero, List.set_cons_succ]
  refine AnyL.takeAt 3 (.slice ad L.length cap) rfl (by kernel_rfl) (by kernel_rfl) (by kernel_rfl) (by kernel_rfl) (fun _ _ _ h => h) rfl hS0 (by intro W hW; obtain ⟨q0, q1⟩ := hW; go_simp) ?_
  try simp only [Act.put, List.setIfInBounds_toArray, List.set_cons_zero, List.set_cons_succ]
  refine AnyL.takeAt 4 (.pointer (some ⟨B, 0, none⟩)) rfl (by kernel_rfl) (by kernel_rfl) (by kernel_rfl) (by kernel_rfl) (fun _ _ _ h => h) rfl hS0 (by intro W hW; obtain ⟨q0, q1⟩ := hW; go_simp) ?_
  try simp only [Act.put, List.setIfInBounds_toArray, List.set_cons_zero, List.set_cons_succ]
  refine AnyL.takeAt 5 (.pointer (some ⟨B, 0, none⟩)) rfl (by kernel_rfl) (by kernel_rfl) (by kernel_rfl) (by kernel_rfl) (fun _ _ _ h => h) rfl hS0 (by intro W hW; obtain ⟨q0, q1⟩ := hW; go_simp) ?_
  try simp only [Act.put, List.setIfInBounds_toArray, List.set_cons_zero, List.set_cons_succ]
  refine AnyL.takeAt 6 (.pointer (some ⟨B, 1, none⟩)) rfl (by kernel_rfl) (by kernel_rfl) (by kernel_rfl) (by kernel_rfl) (fun _ _ _ h => h) rfl hS0 (by intro W hW; obtain ⟨q0, q1⟩ := hW; go_simp) ?_
  try simp only [Act.put, List.setIfInBounds_toArray, List.set_cons_zero, List.set_cons_succ]
  refine AnyL.takeAt 7 (.int .i64 T') rfl (by kernel_rfl) (by kernel_rfl) (by kernel_rfl) (by kernel_rfl) (fun _ _ _ h => h) rfl hS0 (by intro W hW; obtain ⟨q0, q1⟩ := hW; go_simp) ?_
  try simp only [Act.put, List.setIfInBounds_toArray, List.set_cons_zero, List.set_cons_succ]
  refine AnyL.takeAt 8 (.agg #[(.slice ad L.length cap), .int .i64 T']) rfl (by kernel_rfl) (by kernel_rfl) (by kernel_rfl) (by kernel_rfl) (fun _ _ _ h => h) rfl hS0 (by intro W hW; obtain ⟨q0, q1⟩ := hW; go_simp) ?_
  try simp only [Act.put, List.setIfInBounds_toArray, List.set_cons_zero, List.set_cons_succ]
  have r0' : w9.cell? ⟨w.heap.size + 3, 0, none⟩ = some (.slice none 0 0) := r0
  have r1' : w9.cell? ⟨w.heap.size + 3, 1, none⟩ = some (.int .i64 0) := r1
  have z0' : w9.frozen? ⟨w.heap.size + 3, 0, none⟩ = false := z0
  have z1' : w9.frozen? ⟨w.heap.size + 3, 1, none⟩ = false := z1
  refine AnyL.oneAt 9 rfl (by kernel_rfl) rfl ?_
  intro K hK
  go_simp
  refine hK.out _ _ (fun h => absurd rfl h) ?_
  clear hK K
  try simp only [Act.put, List.setIfInBounds_toArray, List.set_cons_zero, List.set_cons_succ]
  refine AnyL.done (by kernel_rfl) ?_
  clear hS0 r0 r1 z0 z1 r0' r1' z0' z1'
  go_wp2_with fail
  obtain ⟨WF, hWF⟩ : ∃ WF, WF = s2 w9.drew (w.heap.size + 3) (.slice ad L.length cap) (.int .i64 (T')) := ⟨_, rfl⟩
  rw [← hWF] at e0 e1 HFI
  have hWF' : WF = ((w9.setCell ⟨w.heap.size + 1 + 1 + 1, 0, none⟩ (.slice ad L.length cap)).setCell ⟨w.heap.size + 1 + 1 + 1, 1, none⟩ (.int .i64 T')).drew := by rw [hWF]; unfold s2; rfl
  rw [← hWF']
  clear hWF hWF'
  refine bodyPost_ret (by simp [results, Try.results23, go_sem, e0, e1]; rfl) rfl ?_
  obtain ⟨h1, h2, h3⟩ := (show _ ∧ _ ∧ _ from HFI)
  exact ⟨(.slice ad L.length cap), L, T', rfl, h1, h2, h3⟩
end Go.Proofs.Ytfpidccjcemcjaa
namespace Go.Proofs.Ytfpidccjcemcjaa
open Go.ChangeShapes Go.WideShapes Go.ChangeAt Go.RowKit
set_option linter.unusedVariables false
set_option maxRecDepth 100000
/-- a table answered into block Z -/
structure An (base W : World) (Z : Nat) (v : Value) (L : List Pv) (T : Int) : Prop where
  kq : Kq base W
  c0 : W.cell? ⟨Z, 0, none⟩ = some v
  c1 : W.cell? ⟨Z, 1, none⟩ = some (.int .i64 T)
  row : W.ownsRow base.heap.size 51 11 v L.length (L.flatMap pcl)
  lo : base.heap.size ≤ Z
  hi : Z < W.heap.size
  ne : ∀ k, v.ownBlock = some k → k ≠ Z
theorem an_fin {base W : World} {Z : Nat} {v : Value} {L : List Pv} {T : Int} {b : Nat} (k : Kq base W) (hz : base.heap.size ≤ Z) (tz : W.heap[Z]? = some (.cells #[.slice none 0 0, .int .i64 0] 40 (0, 0))) (hb : base.heap.size ≤ b) (hr : W.ownsRow b 51 11 v L.length (L.flatMap pcl)) (hne : ∀ k, v.ownBlock = some k → k ≠ Z) : An base (s2 W Z v (.int .i64 T)) Z v L T := by
  have hs := s2_at (v := v) (t := .int .i64 T) tz
  refine ⟨s2_kq k hz _ _, cell_of hs rfl, cell_of hs rfl, row_mono (rowBlk hr (fun g e => s2_other _ _ _ _ g (hne g e))) hb, hz, ?_, hne⟩
  rw [(s2_os W Z v (.int .i64 T)).2.2]
  exact lt_of_obj tz
theorem tz_cells {W : World} {Z : Nat} (tz : W.heap[Z]? = some (.cells #[.slice none 0 0, .int .i64 0] 40 (0, 0))) : W.cell? ⟨Z, 0, none⟩ = some (.slice none 0 0) ∧ W.cell? ⟨Z, 1, none⟩ = some (.int .i64 0) ∧ W.frozen? ⟨Z, 0, none⟩ = false ∧ W.frozen? ⟨Z, 1, none⟩ = false := ⟨cell_of tz rfl, cell_of tz rfl, by simp [World.frozen?, tz], by simp [World.frozen?, tz]⟩
/-- the pairs of a list by their numbers -/
def nth (L : List Pv) : Nat → Pv := fun i => L.getD i pz
theorem lsp_nth (L : List Pv) : lsp (nth L) L.length = L := by
  apply List.ext_getElem?
  intro i
  unfold lsp nth
  rw [List.getElem?_map]
  rcases Nat.lt_or_ge i L.length with h | h
  · rw [List.getElem?_range h, Option.map_some, List.getD_eq_getElem?_getD, List.getElem?_eq_getElem h]
    rfl
  · rw [List.getElem?_eq_none (by simpa using h), List.getElem?_eq_none h]
    rfl
theorem own_list {W : World} {base : Nat} {v : Value} {L : List Pv} (h : W.ownsRow base 51 11 v L.length (L.flatMap pcl)) : ∃ g, OwnP W v g L.length (nth L) ∧ (0 < L.length → base ≤ g ∧ g < W.heap.size ∧ v.ownBlock = some g) := by
  have h' : W.ownsRow base 51 11 v (lsp (nth L) L.length).length ((lsp (nth L) L.length).flatMap pcl) := by rw [lsp_nth]; exact h
  obtain ⟨g, h1, h2⟩ := own_pairs h'
  refine ⟨g, h1, fun hp => ⟨(h2 hp).1, (h2 hp).2, ?_⟩⟩
  obtain ⟨pa, cap, rfl, h3⟩ := h1.sl
  rw [(h3 hp).1]
  rfl
theorem Pt.uniq {n : Nat} {F : Nat → Pv} {T : Int} {u y : Vv} {L L' : List Pv} {S S' : Int} (h : Pt n F T u y L S) (g : Pt n F T u y L' S') : L = L' ∧ S = S' := by
  rcases h with ⟨h1, rfl, rfl⟩ | ⟨h1, rfl, rfl⟩ <;> rcases g with ⟨g1, rfl, rfl⟩ | ⟨g1, rfl, rfl⟩
  · exact ⟨rfl, rfl⟩
  · exact absurd h1 g1
  · exact absurd g1 h1
  · exact ⟨rfl, rfl⟩
theorem PtA.uniq {n : Nat} {F : Nat → Pv} {T c : Int} {u y : Vv} {L L' : List Pv} {S S' : Int} (h : PtA n F T c u y L S) (g : PtA n F T c u y L' S') : L = L' ∧ S = S' := by
  rcases h with ⟨h1, rfl, rfl⟩ | ⟨h1, h2⟩ <;> rcases g with ⟨g1, rfl, rfl⟩ | ⟨g1, g2⟩
  · exact ⟨rfl, rfl⟩
  · exact absurd g1 h1
  · exact absurd h1 g1
  · exact h2.uniq g2
theorem putl_mem {F : Nat → Pv} {u y : Vv} : ∀ n p, p ∈ putl F u y n → ∃ j, j < n ∧ p.a = (F j).a ∧ (p.b = y ∨ p.b = (F j).b)
  | 0, p, h => by cases h
  | n + 1, p, h => by
    rcases List.mem_append.1 (show p ∈ putl F u y n ++ put1 u y (F n) from h) with h | h
    · obtain ⟨j, h1, h2⟩ := putl_mem n p h
      exact ⟨j, by omega, h2⟩
    · refine ⟨n, by omega, ?_⟩
      unfold put1 at h
      split at h <;> split at h
      · cases h
      · rw [List.mem_singleton.1 h]; exact ⟨rfl, .inl rfl⟩
      · cases h
      · rw [List.mem_singleton.1 h]; exact ⟨rfl, .inr rfl⟩
/-- what the answer's pairs are bounded by -/
theorem PtA.bnd {n : Nat} {F : Nat → Pv} {T c : Int} {u y : Vv} {L : List Pv} {S : Int} (h : PtA n F T c u y L S) (tb : Tb n F) (hu : c = 0 → u.g < 18446744073709551616) (hy : y.g < 18446744073709551616) : L.length ≤ 1048576 ∧ ∀ i, i < L.length → (nth L i).a.g < 18446744073709551616 ∧ (nth L i).b.g < 18446744073709551616 := by
  have key : L.length ≤ 1048576 ∧ ∀ p ∈ L, p.a.g < 18446744073709551616 ∧ p.b.g < 18446744073709551616 := by
    have hp : ∀ p ∈ putl F u y n, p.a.g < 18446744073709551616 ∧ p.b.g < 18446744073709551616 := fun p hp => by
      obtain ⟨j, hj, e1, e2⟩ := putl_mem n p hp
      rw [e1]
      refine ⟨(tb.a j hj).g, ?_⟩
      rcases e2 with e2 | e2 <;> rw [e2]
      · exact hy
      · exact (tb.b j hj).g
    have hl := putl_len F u y n
    have hn := tb.len
    rcases h with ⟨h1, rfl, rfl⟩ | ⟨⟨h0, _, hc⟩, ⟨h1, rfl, rfl⟩ | ⟨h1, rfl, rfl⟩⟩
    · exact ⟨Nat.zero_le _, fun p hp => by cases hp⟩
    · have h5 := h1.2.2.1
      refine ⟨by rw [List.length_append]; show _ + 1 ≤ _; omega, fun p h => ?_⟩
      rcases List.mem_append.1 h with h | h
      · exact hp p h
      · rw [List.mem_singleton.1 h]; exact ⟨hu hc, hy⟩
    · exact ⟨by omega, hp⟩
  refine ⟨key.1, fun i hi => ?_⟩
  have e : nth L i = L[i] := by unfold nth; rw [List.getD_eq_getElem?_getD, List.getElem?_eq_getElem hi]; rfl
  rw [e]
  exact key.2 _ (List.getElem_mem hi)
/-- all that the law holds: the model's answer, the copy, the program's answer -/
structure Hw (w1 : World) (Z8 X9 Z10 : Nat) (v8 v9 v10 : Value) (g8 g9 g10 n N : Nat) (T S : Int) (G F9 G10 : Nat → Pv) (W : World) : Prop where
  kq : Kq w1 W
  a0 : W.cell? ⟨Z8, 0, none⟩ = some v8
  a1 : W.cell? ⟨Z8, 1, none⟩ = some (.int .i64 S)
  b0 : W.cell? ⟨X9, 0, none⟩ = some v9
  b1 : W.cell? ⟨X9, 1, none⟩ = some (.int .i64 T)
  c0 : W.cell? ⟨Z10, 0, none⟩ = some v10
  c1 : W.cell? ⟨Z10, 1, none⟩ = some (.int .i64 S)
  o8 : OwnP W v8 g8 N G
  o9 : OwnP W v9 g9 n F9
  o10 : OwnP W v10 g10 N G10
  d9 : 0 < n → w1.heap.size ≤ g9 ∧ Z8 ≠ g9 ∧ X9 ≠ g9 ∧ Z10 ≠ g9 ∧ (0 < N → g8 ≠ g9 ∧ g10 ≠ g9)
  d10 : 0 < N → w1.heap.size ≤ g10 ∧ Z8 ≠ g10 ∧ X9 ≠ g10 ∧ Z10 ≠ g10 ∧ g8 ≠ g10
theorem Hw.on {w1 : World} {Z8 X9 Z10 : Nat} {v8 v9 v10 : Value} {g8 g9 g10 n N : Nat} {T S : Int} {G F9 G10 : Nat → Pv} {W W' : World} (h : Hw w1 Z8 X9 Z10 v8 v9 v10 g8 g9 g10 n N T S G F9 G10 W) (k : Kq W W') : Hw w1 Z8 X9 Z10 v8 v9 v10 g8 g9 g10 n N T S G F9 G10 W' :=
  ⟨h.kq.trans k, k.cell h.a0, k.cell h.a1, k.cell h.b0, k.cell h.b1, k.cell h.c0, k.cell h.c1, h.o8.kq k, h.o9.kq k, h.o10.kq k, h.d9, h.d10⟩
theorem Kx.kqw {g n : Nat} {w a b : World} (h : Kx g n a b) (k : Kq w a) (hg : 0 < n → w.heap.size ≤ g) : Kq w b :=
  ⟨h.os.trans k.os, h.output.trans k.output, Nat.le_trans k.size h.size, fun i hi => (h.block i (Nat.lt_of_lt_of_le hi k.size) (fun hn e => by have := hg hn; omega)).trans (k.block i hi)⟩
theorem Kx.cell {g n : Nat} {a b : World} (h : Kx g n a b) {Z j : Nat} {v : Value} (hc : a.cell? ⟨Z, j, none⟩ = some v) (hne : 0 < n → Z ≠ g) : b.cell? ⟨Z, j, none⟩ = some v :=
  (World.cell?_of_block (h.block Z (lt_of_cell hc) hne)).trans hc
theorem Kx.own {g n : Nat} {a b : World} (h : Kx g n a b) {v : Value} {g' m : Nat} {F : Nat → Pv} (ho : OwnP a v g' m F) (hne : 0 < n → 0 < m → g' ≠ g) : OwnP b v g' m F :=
  ho.block (fun hm => h.block g' (ho.ce 0 hm).lt (fun hn => hne hn hm))
theorem Hw.mk9 {w1 : World} {Z8 X9 Z10 : Nat} {v8 v9 v10 : Value} {g8 g9 g10 n N : Nat} {T S : Int} {G F9 F9' G10 : Nat → Pv} {W W' : World} (h : Hw w1 Z8 X9 Z10 v8 v9 v10 g8 g9 g10 n N T S G F9 G10 W) (k : Kx g9 n W W') (ho : OwnP W' v9 g9 n F9') : Hw w1 Z8 X9 Z10 v8 v9 v10 g8 g9 g10 n N T S G F9' G10 W' :=
  ⟨k.kqw h.kq (fun hn => (h.d9 hn).1), k.cell h.a0 (fun hn => (h.d9 hn).2.1), k.cell h.a1 (fun hn => (h.d9 hn).2.1), k.cell h.b0 (fun hn => (h.d9 hn).2.2.1), k.cell h.b1 (fun hn => (h.d9 hn).2.2.1), k.cell h.c0 (fun hn => (h.d9 hn).2.2.2.1), k.cell h.c1 (fun hn => (h.d9 hn).2.2.2.1), k.own h.o8 (fun hn hN => ((h.d9 hn).2.2.2.2 hN).1), ho, k.own h.o10 (fun hn hN => ((h.d9 hn).2.2.2.2 hN).2), h.d9, h.d10⟩
theorem Hw.mk10 {w1 : World} {Z8 X9 Z10 : Nat} {v8 v9 v10 : Value} {g8 g9 g10 n N : Nat} {T S : Int} {G F9 G10 G10' : Nat → Pv} {W W' : World} (h : Hw w1 Z8 X9 Z10 v8 v9 v10 g8 g9 g10 n N T S G F9 G10 W) (k : Kx g10 N W W') (ho : OwnP W' v10 g10 N G10') : Hw w1 Z8 X9 Z10 v8 v9 v10 g8 g9 g10 n N T S G F9 G10' W' :=
  ⟨k.kqw h.kq (fun hn => (h.d10 hn).1), k.cell h.a0 (fun hn => (h.d10 hn).2.1), k.cell h.a1 (fun hn => (h.d10 hn).2.1), k.cell h.b0 (fun hn => (h.d10 hn).2.2.1), k.cell h.b1 (fun hn => (h.d10 hn).2.2.1), k.cell h.c0 (fun hn => (h.d10 hn).2.2.2.1), k.cell h.c1 (fun hn => (h.d10 hn).2.2.2.1), k.own h.o8 (fun hn hN => (h.d10 hn).2.2.2.2), k.own h.o9 (fun hN hn => Ne.symm ((h.d9 hn).2.2.2.2 hN).2), ho, h.d9, h.d10⟩
end Go.Proofs.Ytfpidccjcemcjaa
namespace Go.Proofs.Ytfpidccjcemcjaa
open Go.ChangeShapes Go.WideShapes Go.ChangeAt Go.RowKit
set_option linter.unusedVariables false
set_option maxRecDepth 100000
set_option maxHeartbeats 32000000 in
theorem law_put {v : Value} {n : Nat} {F : Nat → Pv} (T : Int) (ky : Vv) (kb : Vb ky) (y : Vv) (yb : Vb y) (w : World) (ta : Ta w v n F) : Calls Try.prog 6 #[.agg #[v, .int .i64 T], vv ky, vv y] w fun e w' => e = .returned (.bool true) ∧ Kq w w' := by
  obtain ⟨pa, ca, rfl, _⟩ := ta.row
  obtain ⟨c, u, hy⟩ := ky_ex ky
  obtain ⟨w1, hw1⟩ : ∃ w1, w1 = ((w.alloc (.cells #[.slice pa n ca, .int .i64 T] 35)).alloc (.cells #[.int .i64 ky.k, .int .i64 ky.m, .float .f64 ky.g, .string ky.x, .int .i64 ky.r] 24)).alloc (.cells #[.int .i64 y.k, .int .i64 y.m, .float .f64 y.g, .string y.x, .int .i64 y.r] 24) := ⟨_, rfl⟩
  obtain ⟨x0, x1, x2, z1, k1⟩ := three_new w _ _ _ _ _ _ w1 hw1
  have HS : Hid (∀ W, Kq w1 W → Calls Try.prog 14 #[.agg #[.slice pa n ca, .int .i64 T], .int .i64 1048576] W fun e w' => ∃ r : Int, e = .returned (.int .i64 r) ∧ (0 ≤ r → Tb n F) ∧ -1 ≤ r ∧ r ≤ 1048576 ∧ Kq W w') := (fun W q => (sz_table T W ((ta.row.kq k1).kq q) ta.len (fun i hi => ⟨(ta.a i hi).x, (ta.b i hi).x⟩)).mono (fun e w' ⟨r, h1, h2, h3, h4, h5⟩ => ⟨r, h1, fun h => ⟨by have := (h2 h).1; omega, ta.a, ta.b, fun i hi => ((h2 h).2 i hi).1, fun i hi => ((h2 h).2 i hi).2, ta.t⟩, h3, h4, h5⟩) : ∀ W, Kq w1 W → _)
  have HT : Hid (Tb n F → ∀ W, Kq w1 W → Calls Try.prog 16 #[.agg #[.slice pa n ca, .int .i64 T]] W fun e w' => ∃ v g, e = .returned (.agg #[v, .int .i64 T]) ∧ OwnP w' v g n F ∧ W.heap.size ≤ g ∧ g < w'.heap.size ∧ Kq W w') := (fun tb W q => to_table T W ((ta.row.kq k1).kq q) tb.len : Tb n F → ∀ W, Kq w1 W → _)
  have HSZ := fun l hl w => sz_val ky l hl kb.x w
  have HSZ' := fun l hl w => sz_val y l hl yb.x w
  have HTV := fun w => to_val ky w
  have HTY := fun w => to_val y w
  have HG1 : Hid (Tb n F → (ky.x.size : Int) ≤ 1048576 → (y.x.size : Int) ≤ 1048576 → ∀ W v1 g1, OwnP W v1 g1 n F → Calls Try.prog 22 #[.agg #[v1, .int .i64 T], vv ky, vv y] W fun e w' => ∃ v' L T', e = .returned (.agg #[v', .int .i64 T']) ∧ PtA n F T c u y L T' ∧ w'.ownsRow W.heap.size 51 11 v' L.length (L.flatMap pcl) ∧ Kq W w') := (fun tb hx hx2 W v1 g1 ho => sp_put T ky c u y hy kb hx hx2 (fun hc => ky_uk (by rw [← hc]; exact hy) kb hx) W ho tb : Tb n F → _)
  have HG2 : Hid (Tb n F → (ky.x.size : Int) ≤ 1048576 → (y.x.size : Int) ≤ 1048576 → ∀ W v1 g1, OwnP W v1 g1 n F → Calls Try.prog 23 #[.agg #[v1, .int .i64 T], vv ky, vv y] W fun e w' => ∃ v' L T', e = .returned (.agg #[v', .int .i64 T']) ∧ PtA n F T c u y L T' ∧ w'.ownsRow W.heap.size 51 11 v' L.length (L.flatMap pcl) ∧ Kq W w') := (fun tb hx hx2 W v1 g1 ho => im_put T ky c u y hy kb hx hx2 (fun hc => ky_uk (by rw [← hc]; exact hy) kb hx) W ho tb : Tb n F → _)
  have HUQ : Hid (∀ L S L' S', PtA n F T c u y L S → PtA n F T c u y L' S' → L = L' ∧ S = S') := (fun L S L' S' h1 h2 => h1.uniq h2 : ∀ L S L' S', _)
  have HGL : Hid (Tb n F → (ky.x.size : Int) ≤ 1048576 → ∀ L S, PtA n F T c u y L S → L.length ≤ 1048576 ∧ ∀ i, i < L.length → (nth L i).a.g < 18446744073709551616 ∧ (nth L i).b.g < 18446744073709551616) := (fun tb hx L S h => h.bnd tb (fun hc => (ky_uk (by rw [← hc]; exact hy) kb hx).vb.g) yb.g : Tb n F → _)
  generalize PtA n F T c u y = Pu at HG1 HG2 HUQ HGL
  clear hy kb yb
  obtain ⟨k, m, g, x, r⟩ := ky
  obtain ⟨yk, ym, yg, yx, yr⟩ := y
  unfold vv at HSZ HSZ' HTV HTY HG1 HG2 ⊢
  dsimp only at HSZ HSZ' HTV HTY HG1 HG2 HGL x1 x2 hw1 ⊢
  have HSX0 : Hid (∀ W', Kq w1 W' → W'.cell? ⟨w.heap.size, 0, none⟩ = some (.slice pa n ca) ∧ W'.cell? ⟨w.heap.size, 1, none⟩ = some (.int .i64 T) ∧ Vc W' (w.heap.size + 1) ⟨k, m, g, x, r⟩ ∧ Vc W' (w.heap.size + 2) ⟨yk, ym, yg, yx, yr⟩) := (fun W' q => ⟨q.cell (cell_of x0 rfl), q.cell (cell_of x0 rfl), ⟨q.cell (cell_of x1 rfl), q.cell (cell_of x1 rfl), q.cell (cell_of x1 rfl), q.cell (cell_of x1 rfl), q.cell (cell_of x1 rfl)⟩, ⟨q.cell (cell_of x2 rfl), q.cell (cell_of x2 rfl), q.cell (cell_of x2 rfl), q.cell (cell_of x2 rfl), q.cell (cell_of x2 rfl)⟩⟩ : ∀ W', Kq w1 W' → _)
  have HK : Hid (Kq w w1) := k1
  clear ta k1 x0 x1 x2 z1
  have hst : ∀ (a : Addr) (n : Nat) (m : Mode) (w : World), (store a (.float .f64 n) m).run Try.prog w = stored Try.prog w a (.float .f64 n) m := fun a n m w => run_store _ _ _ _ _ rfl
  go_enter Try.func6, Try.ntmps6
  go_wp2_with fail
  rw [← hw1]
  clear hw1
  refine ((show ∀ W, Kq w1 W → _ from HS) w1 (Kq.refl _)).mono ?_
  rintro e w2 ⟨l1, rfl, htb, hr0, hr1, g2⟩
  have HK2 : Hid (Kq w1 w2) := g2
  have HTB : Hid (0 ≤ l1 → Tb n F) := htb
  clear htb g2 HS
  rcases Int.lt_or_le l1 0 with hr | hr
  · go_wp2_with fail
    go_ret
    exact ⟨rfl, Kq.trans HK HK2⟩
  have hr' : ¬ l1 < 0 := by omega
  have tb := (show 0 ≤ l1 → Tb n F from HTB) hr
  obtain ⟨a0, a1, ⟨v0, v1, v2, v3, v4⟩, _⟩ := (show ∀ W', Kq w1 W' → W'.cell? ⟨w.heap.size, 0, none⟩ = some (.slice pa n ca) ∧ W'.cell? ⟨w.heap.size, 1, none⟩ = some (.int .i64 T) ∧ Vc W' (w.heap.size + 1) ⟨k, m, g, x, r⟩ ∧ Vc W' (w.heap.size + 2) ⟨yk, ym, yg, yx, yr⟩ from HSX0) w2 HK2
  dsimp only at v0 v1 v2 v3 v4
  have HSZ1 := fun w => HSZ l1 ⟨hr, hr1⟩ w
  clear HSZ HTB
  go_wp2_with fail
  refine (HSZ1 _).mono ?_
  rintro e w3 ⟨rfl, g3⟩
  have HK3 : Hid (Kq w1 w3) := Kq.trans HK2 (.of_grown g3)
  clear g3 HSZ1 a0 a1 v0 v1 v2 v3 v4 HK2
  by_cases hxs : (x.size : Int) ≤ l1
  case neg =>
    rw [if_neg hxs]
    clear HSX0 HT HTV HTY HG1 HG2 HUQ HGL tb
    go_wp2_with fail
    go_ret
    exact ⟨rfl, Kq.trans HK HK3⟩
  rw [if_pos hxs]
  obtain ⟨l2, hl2⟩ : ∃ l2, l2 = l1 - (x.size : Int) := ⟨_, rfl⟩
  have hx2 : ¬ l2 < 0 := by omega
  have hx3 : (x.size : Int) ≤ 1048576 := by omega
  have hx4 : 0 ≤ l2 ∧ l2 ≤ 1048576 := by omega
  rw [← hl2]
  clear hl2 hxs hr hr' hr0 hr1
  obtain ⟨_, _, _, ⟨v0, v1, v2, v3, v4⟩⟩ := (show ∀ W', Kq w1 W' → W'.cell? ⟨w.heap.size, 0, none⟩ = some (.slice pa n ca) ∧ W'.cell? ⟨w.heap.size, 1, none⟩ = some (.int .i64 T) ∧ Vc W' (w.heap.size + 1) ⟨k, m, g, x, r⟩ ∧ Vc W' (w.heap.size + 2) ⟨yk, ym, yg, yx, yr⟩ from HSX0) w3 HK3
  dsimp only at v0 v1 v2 v3 v4
  have HSZ1 := fun w => HSZ' l2 hx4 w
  clear HSZ'
  go_wp2_with fail
  refine (HSZ1 _).mono ?_
  rintro e w4 ⟨rfl, g4⟩
  have HK4 : Hid (Kq w1 w4) := Kq.trans HK3 (.of_grown g4)
  clear g4 HSZ1 v0 v1 v2 v3 v4 HK3
  by_cases hys : (yx.size : Int) ≤ l2
  case neg =>
    rw [if_neg hys]
    clear HSX0 HT HTV HTY HG1 HG2 HUQ HGL tb
    go_wp2_with fail
    go_ret
    exact ⟨rfl, Kq.trans HK HK4⟩
  rw [if_pos hys]
  have hx5 : ¬ l2 - (yx.size : Int) < 0 := by omega
  have hx6 : (yx.size : Int) ≤ 1048576 := by omega
  have HTH : Hid (∀ W, Kq w1 W → Calls Try.prog 16 #[.agg #[.slice pa n ca, .int .i64 T]] W fun e w' => ∃ v g, e = .returned (.agg #[v, .int .i64 T]) ∧ OwnP w' v g n F ∧ W.heap.size ≤ g ∧ g < w'.heap.size ∧ Kq W w') := (show Tb n F → ∀ W, Kq w1 W → _ from HT) tb
  have HSG := (show Tb n F → _ from HG1) tb hx3 hx6
  have HIG := (show Tb n F → _ from HG2) tb hx3 hx6
  have HGLT : Hid (∀ L S, Pu L S → L.length ≤ 1048576 ∧ ∀ i, i < L.length → (nth L i).a.g < 18446744073709551616 ∧ (nth L i).b.g < 18446744073709551616) := (show Tb n F → _ from HGL) tb hx3
  have TBH : Hid (Tb n F) := tb
  have HSX := (show ∀ W', Kq w1 W' → W'.cell? ⟨w.heap.size, 0, none⟩ = some (.slice pa n ca) ∧ W'.cell? ⟨w.heap.size, 1, none⟩ = some (.int .i64 T) ∧ Vc W' (w.heap.size + 1) ⟨k, m, g, x, r⟩ ∧ Vc W' (w.heap.size + 2) ⟨yk, ym, yg, yx, yr⟩ from HSX0)
  clear HT HG1 HG2 HGL tb hys hx4
  go_upto_region 11 with fail
  go_cut [8] from 30 to 36 (fun s8 wx => ∃ (Z : Nat) (v : Value) (L : List Pv) (S : Int), s8 = .pointer (some ⟨Z, 0, none⟩) ∧ Hid (An w1 wx Z v L S ∧ Pu L S))
  case first =>
    clear HIG HUQ HGLT TBH HSX0
    refine AnyL.region (S := fun W' : World => W'.cell? ⟨w.heap.size, 0, none⟩ = some (.slice pa n ca) ∧ W'.cell? ⟨w.heap.size, 1, none⟩ = some (.int .i64 T) ∧ Vc W' (w.heap.size + 1) ⟨k, m, g, x, r⟩ ∧ Vc W' (w.heap.size + 2) ⟨yk, ym, yg, yx, yr⟩) (z := 8) (by kernel_rfl) ?_
    obtain ⟨VD, hVD⟩ : ∃ VD, VD = w4.drew := ⟨_, rfl⟩
    rw [← hVD]
    have KD : Hid (Kq w1 VD) := by rw [hVD]; exact Kq.drew HK4
    have hS0 : (fun W' : World => W'.cell? ⟨w.heap.size, 0, none⟩ = some (.slice pa n ca) ∧ W'.cell? ⟨w.heap.size, 1, none⟩ = some (.int .i64 T) ∧ Vc W' (w.heap.size + 1) ⟨k, m, g, x, r⟩ ∧ Vc W' (w.heap.size + 2) ⟨yk, ym, yg, yx, yr⟩) VD := HSX VD KD
    clear hVD
    refine AnyL.takeAt 0 (.agg #[.slice pa n ca, .int .i64 T]) rfl (by kernel_rfl) (by kernel_rfl) (by kernel_rfl) (by kernel_rfl) (fun _ _ _ h => h) rfl hS0 (by intro W hW; obtain ⟨q0, q1, ⟨q2, q3, q4, q5, q6⟩, ⟨t2, t3, t4, t5, t6⟩⟩ := hW; go_simp) ?_
    try simp only [Act.put, List.setIfInBounds_toArray, List.set_cons_zero, List.set_cons_succ]
    refine AnyL.takeAt 2 (.agg #[.int .i64 k, .int .i64 m, .float .f64 g, .string x, .int .i64 r]) rfl (by kernel_rfl) (by kernel_rfl) (by kernel_rfl) (by kernel_rfl) (fun _ _ _ h => h) rfl hS0 (by intro W hW; obtain ⟨q0, q1, ⟨q2, q3, q4, q5, q6⟩, ⟨t2, t3, t4, t5, t6⟩⟩ := hW; go_simp) ?_
    try simp only [Act.put, List.setIfInBounds_toArray, List.set_cons_zero, List.set_cons_succ]
    refine AnyL.takeAt 4 (.agg #[.int .i64 yk, .int .i64 ym, .float .f64 yg, .string yx, .int .i64 yr]) rfl (by kernel_rfl) (by kernel_rfl) (by kernel_rfl) (by kernel_rfl) (fun _ _ _ h => h) rfl hS0 (by intro W hW; obtain ⟨q0, q1, ⟨q2, q3, q4, q5, q6⟩, ⟨t2, t3, t4, t5, t6⟩⟩ := hW; go_simp) ?_
    try simp only [Act.put, List.setIfInBounds_toArray, List.set_cons_zero, List.set_cons_succ]
    refine AnyL.two 1 7 rfl rfl (by kernel_rfl) rfl rfl ?_ ?_
    · intro K hK
      go_simp
      refine ((show ∀ W, Kq w1 W → _ from HTH) (VD) (KD)).mono ?_
      rintro e w_1 ⟨vt, gt, rfl, hot, _, _, gk⟩
      have HOT : Hid (OwnP w_1 vt gt n F) := hot
      obtain ⟨pt, ct, rfl, _⟩ := hot.sl
      clear hot
      have K_2 : Hid (Kq w1 w_1) := Kq.trans KD gk
      have S_3 := HSX w_1 K_2
      clear gk
      refine hK.out _ _ (fun _ => S_3) ?_
      clear hK K
      try simp only [Act.put, List.setIfInBounds_toArray, List.set_cons_zero, List.set_cons_succ]
      refine AnyL.two 3 7 rfl rfl (by kernel_rfl) rfl rfl ?_ ?_
      · intro K hK
        go_simp
        refine (HTV (w_1)).mono ?_
        rintro e w_4 ⟨rfl, gk'⟩
        have gk : Kq _ w_4 := .of_grown gk'
        clear gk'
        have K_5 : Hid (Kq w1 w_4) := Kq.trans K_2 gk
        have S_6 := HSX w_4 K_5
        have HO_7 : Hid (OwnP w_4 (.slice pt n ct) gt n F) := OwnP.kq HOT gk
        clear gk
        refine hK.out _ _ (fun _ => S_6) ?_
        clear hK K
        try simp only [Act.put, List.setIfInBounds_toArray, List.set_cons_zero, List.set_cons_succ]
        refine AnyL.two 5 7 rfl rfl (by kernel_rfl) rfl rfl ?_ ?_
        · intro K hK
          go_simp
          refine (HTY (w_4)).mono ?_
          rintro e w_8 ⟨rfl, gk'⟩
          have gk : Kq _ w_8 := .of_grown gk'
          clear gk'
          have K_9 : Hid (Kq w1 w_8) := Kq.trans K_5 gk
          have S_10 := HSX w_8 K_9
          have HO_11 : Hid (OwnP w_8 (.slice pt n ct) gt n F) := OwnP.kq HO_7 gk
          clear gk
          refine hK.out _ _ (fun _ => S_10) ?_
          clear hK K
          try simp only [Act.put, List.setIfInBounds_toArray, List.set_cons_zero, List.set_cons_succ]
          refine AnyL.two 6 7 rfl rfl (by kernel_rfl) rfl rfl ?_ ?_
          · intro K hK
            go_simp
            refine (HSG (w_8) _ _ HO_11).mono ?_
            rintro e w_12 ⟨vp, L, S, rfl, hpu, hrw, gk⟩
            obtain ⟨ad, cap, rfl⟩ := row_shape hrw
            have HPU : Hid (Pu L S) := hpu
            have HRW : Hid (w_12.ownsRow (w_8).heap.size 51 11 (.slice ad L.length cap) L.length (L.flatMap pcl)) := hrw
            clear hpu hrw
            have K_13 : Hid (Kq w1 w_12) := Kq.trans K_9 gk
            have S_14 := HSX w_12 K_13
            have HO_15 : Hid (OwnP w_12 (.slice pt n ct) gt n F) := OwnP.kq HO_11 gk
            have HBB : (w1).heap.size ≤ (w_8).heap.size := (show Kq w1 (w_8) from K_9).size
            clear gk
            refine hK.out _ _ (fun _ => S_14) ?_
            clear hK K
            try simp only [Act.put, List.setIfInBounds_toArray, List.set_cons_zero, List.set_cons_succ]
            refine AnyL.oneAt 7 rfl (by kernel_rfl) rfl ?_
            intro K hK
            go_simp
            obtain ⟨Z_20, hZ⟩ : ∃ Z, Z = (w_12).heap.size := ⟨_, rfl⟩
            obtain ⟨w_16, hWn⟩ : ∃ Wn, Wn = ((w_12).alloc (.cells #[.slice none 0 0, .int .i64 0] 40)) := ⟨_, rfl⟩
            have gk : Kq (w_12) w_16 := by rw [hWn]; exact kq_alloc _ _ _
            have R_19 : Hid (w_16.heap[Z_20]? = some (.cells #[.slice none 0 0, .int .i64 0] 40 (0, 0))) := by rw [hWn, hZ]; exact alloc_new _ _
            have hz_21 : (w1).heap.size ≤ Z_20 := by rw [hZ]; exact (show Kq w1 (w_12) from K_13).size
            have K_17 : Hid (Kq w1 w_16) := Kq.trans K_13 gk
            have S_18 := HSX w_16 K_17
            have HO_22 : Hid (OwnP w_16 (.slice pt n ct) gt n F) := OwnP.kq HO_15 gk
            have RW_23 : Hid (w_16.ownsRow (w_8).heap.size 51 11 (.slice ad L.length cap) L.length (L.flatMap pcl)) := rowBlk (show (w_12).ownsRow (w_8).heap.size 51 11 (.slice ad L.length cap) L.length (L.flatMap pcl) from HRW) (fun k e => gk.block k ((show (w_12).ownsRow (w_8).heap.size 51 11 (.slice ad L.length cap) L.length (L.flatMap pcl) from HRW).lt k e).2)
            have HNE : Hid (∀ k, (Value.slice ad L.length cap).ownBlock = some k → k ≠ Z_20) := (fun k e => by have h1 := ((show (w_12).ownsRow (w_8).heap.size 51 11 (.slice ad L.length cap) L.length (L.flatMap pcl) from HRW).lt k e).2; omega : ∀ k, _)
            have hWd : (w_12).alloc (.cells #[.slice none 0 0, .int .i64 0] 40) = w_16 := hWn.symm
            have hZd : (w_12).heap.size = Z_20 := hZ.symm
            try simp only [hWd]
            try rw [hWd]
            try rw [hZd]
            clear gk hWn hWd hZ hZd
            refine hK.out _ _ (fun _ => S_18) ?_
            clear hK K
            try simp only [Act.put, List.setIfInBounds_toArray, List.set_cons_zero, List.set_cons_succ]
            obtain ⟨r0, r1, z0, z1⟩ := tz_cells (show w_16.heap[Z_20]? = some (.cells #[.slice none 0 0, .int .i64 0] 40 (0, 0)) from R_19)
            refine AnyL.oneAt 8 rfl (by kernel_rfl) rfl ?_
            intro K hK
            go_simp
            refine hK.out _ _ (fun h => absurd rfl h) ?_
            clear hK K
            refine AnyL.done (by kernel_rfl) ?_
            have HAN : Hid (An w1 (s2 w_16 Z_20 (.slice ad L.length cap) (.int .i64 S)) Z_20 (.slice ad L.length cap) L S) := an_fin (show Kq w1 w_16 from K_17) hz_21 (show w_16.heap[Z_20]? = some (.cells #[.slice none 0 0, .int .i64 0] 40 (0, 0)) from R_19) HBB (show w_16.ownsRow (w_8).heap.size 51 11 (.slice ad L.length cap) L.length (L.flatMap pcl) from RW_23) HNE
            obtain ⟨WF, hWF⟩ : ∃ WF, WF = s2 w_16 Z_20 (.slice ad L.length cap) (.int .i64 S) := ⟨_, rfl⟩
            rw [← hWF] at HAN
            unfold s2 at hWF
            rw [← hWF]
            clear hWF
            go_wp2_with fail
            go_meet
            exact ⟨Z_20, _, L, S, rfl, (⟨HAN, HPU⟩ : An _ _ _ _ _ _ ∧ Pu L S)⟩
          · intro K hK
            go_simp
            obtain ⟨Z_28, hZ⟩ : ∃ Z, Z = (w_8).heap.size := ⟨_, rfl⟩
            obtain ⟨w_24, hWn⟩ : ∃ Wn, Wn = ((w_8).alloc (.cells #[.slice none 0 0, .int .i64 0] 40)) := ⟨_, rfl⟩
            have gk : Kq (w_8) w_24 := by rw [hWn]; exact kq_alloc _ _ _
            have R_27 : Hid (w_24.heap[Z_28]? = some (.cells #[.slice none 0 0, .int .i64 0] 40 (0, 0))) := by rw [hWn, hZ]; exact alloc_new _ _
            have hz_29 : (w1).heap.size ≤ Z_28 := by rw [hZ]; exact (show Kq w1 (w_8) from K_9).size
            have K_25 : Hid (Kq w1 w_24) := Kq.trans K_9 gk
            have S_26 := HSX w_24 K_25
            have HO_30 : Hid (OwnP w_24 (.slice pt n ct) gt n F) := OwnP.kq HO_11 gk
            have hWd : (w_8).alloc (.cells #[.slice none 0 0, .int .i64 0] 40) = w_24 := hWn.symm
            have hZd : (w_8).heap.size = Z_28 := hZ.symm
            try simp only [hWd]
            try rw [hWd]
            try rw [hZd]
            clear gk hWn hWd hZ hZd
            refine hK.out _ _ (fun _ => S_26) ?_
            clear hK K
            try simp only [Act.put, List.setIfInBounds_toArray, List.set_cons_zero, List.set_cons_succ]
            refine AnyL.oneAt 6 rfl (by kernel_rfl) rfl ?_
            intro K hK
            go_simp
            refine (HSG (w_24) _ _ HO_30).mono ?_
            rintro e w_31 ⟨vp, L, S, rfl, hpu, hrw, gk⟩
            obtain ⟨ad, cap, rfl⟩ := row_shape hrw
            have HPU : Hid (Pu L S) := hpu
            have HRW : Hid (w_31.ownsRow (w_24).heap.size 51 11 (.slice ad L.length cap) L.length (L.flatMap pcl)) := hrw
            clear hpu hrw
            have K_32 : Hid (Kq w1 w_31) := Kq.trans K_25 gk
            have S_33 := HSX w_31 K_32
            have R_34 : Hid (w_31.heap[Z_28]? = some (.cells #[.slice none 0 0, .int .i64 0] 40 (0, 0))) := (gk.block _ (lt_of_obj (show (w_24).heap[Z_28]? = some (.cells #[.slice none 0 0, .int .i64 0] 40 (0, 0)) from R_27))).trans R_27
            have HO_35 : Hid (OwnP w_31 (.slice pt n ct) gt n F) := OwnP.kq HO_30 gk
            have HBB : (w1).heap.size ≤ (w_24).heap.size := (show Kq w1 (w_24) from K_25).size
            have HNE : Hid (∀ k, (Value.slice ad L.length cap).ownBlock = some k → k ≠ Z_28) := (fun k e => by have h1 := ((show w_31.ownsRow (w_24).heap.size 51 11 (.slice ad L.length cap) L.length (L.flatMap pcl) from HRW).lt k e).1; have h2 := lt_of_obj (show (w_24).heap[Z_28]? = some (.cells #[.slice none 0 0, .int .i64 0] 40 (0, 0)) from R_27); omega : ∀ k, _)
            clear gk
            refine hK.out _ _ (fun _ => S_33) ?_
            clear hK K
            try simp only [Act.put, List.setIfInBounds_toArray, List.set_cons_zero, List.set_cons_succ]
            obtain ⟨r0, r1, z0, z1⟩ := tz_cells (show w_31.heap[Z_28]? = some (.cells #[.slice none 0 0, .int .i64 0] 40 (0, 0)) from R_34)
            refine AnyL.oneAt 8 rfl (by kernel_rfl) rfl ?_
            intro K hK
            go_simp
            refine hK.out _ _ (fun h => absurd rfl h) ?_
            clear hK K
            refine AnyL.done (by kernel_rfl) ?_
            have HAN : Hid (An w1 (s2 w_31 Z_28 (.slice ad L.length cap) (.int .i64 S)) Z_28 (.slice ad L.length cap) L S) := an_fin (show Kq w1 w_31 from K_32) hz_29 (show w_31.heap[Z_28]? = some (.cells #[.slice none 0 0, .int .i64 0] 40 (0, 0)) from R_34) HBB (show w_31.ownsRow (w_24).heap.size 51 11 (.slice ad L.length cap) L.length (L.flatMap pcl) from HRW) HNE
            obtain ⟨WF, hWF⟩ : ∃ WF, WF = s2 w_31 Z_28 (.slice ad L.length cap) (.int .i64 S) := ⟨_, rfl⟩
            rw [← hWF] at HAN
            unfold s2 at hWF
            rw [← hWF]
            clear hWF
            go_wp2_with fail
            go_meet
            exact ⟨Z_28, _, L, S, rfl, (⟨HAN, HPU⟩ : An _ _ _ _ _ _ ∧ Pu L S)⟩
        · intro K hK
          go_simp
          obtain ⟨Z_40, hZ⟩ : ∃ Z, Z = (w_4).heap.size := ⟨_, rfl⟩
          obtain ⟨w_36, hWn⟩ : ∃ Wn, Wn = ((w_4).alloc (.cells #[.slice none 0 0, .int .i64 0] 40)) := ⟨_, rfl⟩
          have gk : Kq (w_4) w_36 := by rw [hWn]; exact kq_alloc _ _ _
          have R_39 : Hid (w_36.heap[Z_40]? = some (.cells #[.slice none 0 0, .int .i64 0] 40 (0, 0))) := by rw [hWn, hZ]; exact alloc_new _ _
          have hz_41 : (w1).heap.size ≤ Z_40 := by rw [hZ]; exact (show Kq w1 (w_4) from K_5).size
          have K_37 : Hid (Kq w1 w_36) := Kq.trans K_5 gk
          have S_38 := HSX w_36 K_37
          have HO_42 : Hid (OwnP w_36 (.slice pt n ct) gt n F) := OwnP.kq HO_7 gk
          have hWd : (w_4).alloc (.cells #[.slice none 0 0, .int .i64 0] 40) = w_36 := hWn.symm
          have hZd : (w_4).heap.size = Z_40 := hZ.symm
          try simp only [hWd]
          try rw [hWd]
          try rw [hZd]
          clear gk hWn hWd hZ hZd
          refine hK.out _ _ (fun _ => S_38) ?_
          clear hK K
          try simp only [Act.put, List.setIfInBounds_toArray, List.set_cons_zero, List.set_cons_succ]
          refine AnyL.oneAt 5 rfl (by kernel_rfl) rfl ?_
          intro K hK
          go_simp
          refine (HTY (w_36)).mono ?_
          rintro e w_43 ⟨rfl, gk'⟩
          have gk : Kq _ w_43 := .of_grown gk'
          clear gk'
          have K_44 : Hid (Kq w1 w_43) := Kq.trans K_37 gk
          have S_45 := HSX w_43 K_44
          have R_46 : Hid (w_43.heap[Z_40]? = some (.cells #[.slice none 0 0, .int .i64 0] 40 (0, 0))) := (gk.block _ (lt_of_obj (show (w_36).heap[Z_40]? = some (.cells #[.slice none 0 0, .int .i64 0] 40 (0, 0)) from R_39))).trans R_39
          have HO_47 : Hid (OwnP w_43 (.slice pt n ct) gt n F) := OwnP.kq HO_42 gk
          clear gk
          refine hK.out _ _ (fun _ => S_45) ?_
          clear hK K
          try simp only [Act.put, List.setIfInBounds_toArray, List.set_cons_zero, List.set_cons_succ]
          refine AnyL.oneAt 6 rfl (by kernel_rfl) rfl ?_
          intro K hK
          go_simp
          refine (HSG (w_43) _ _ HO_47).mono ?_
          rintro e w_48 ⟨vp, L, S, rfl, hpu, hrw, gk⟩
          obtain ⟨ad, cap, rfl⟩ := row_shape hrw
          have HPU : Hid (Pu L S) := hpu
          have HRW : Hid (w_48.ownsRow (w_43).heap.size 51 11 (.slice ad L.length cap) L.length (L.flatMap pcl)) := hrw
          clear hpu hrw
          have K_49 : Hid (Kq w1 w_48) := Kq.trans K_44 gk
          have S_50 := HSX w_48 K_49
          have R_51 : Hid (w_48.heap[Z_40]? = some (.cells #[.slice none 0 0, .int .i64 0] 40 (0, 0))) := (gk.block _ (lt_of_obj (show (w_43).heap[Z_40]? = some (.cells #[.slice none 0 0, .int .i64 0] 40 (0, 0)) from R_46))).trans R_46
          have HO_52 : Hid (OwnP w_48 (.slice pt n ct) gt n F) := OwnP.kq HO_47 gk
          have HBB : (w1).heap.size ≤ (w_43).heap.size := (show Kq w1 (w_43) from K_44).size
          have HNE : Hid (∀ k, (Value.slice ad L.length cap).ownBlock = some k → k ≠ Z_40) := (fun k e => by have h1 := ((show w_48.ownsRow (w_43).heap.size 51 11 (.slice ad L.length cap) L.length (L.flatMap pcl) from HRW).lt k e).1; have h2 := lt_of_obj (show (w_43).heap[Z_40]? = some (.cells #[.slice none 0 0, .int .i64 0] 40 (0, 0)) from R_46); omega : ∀ k, _)
          clear gk
          refine hK.out _ _ (fun _ => S_50) ?_
          clear hK K
          try simp only [Act.put, List.setIfInBounds_toArray, List.set_cons_zero, List.set_cons_succ]
          obtain ⟨r0, r1, z0, z1⟩ := tz_cells (show w_48.heap[Z_40]? = some (.cells #[.slice none 0 0, .int .i64 0] 40 (0, 0)) from R_51)
          refine AnyL.oneAt 8 rfl (by kernel_rfl) rfl ?_
          intro K hK
          go_simp
          refine hK.out _ _ (fun h => absurd rfl h) ?_
          clear hK K
          refine AnyL.done (by kernel_rfl) ?_
          have HAN : Hid (An w1 (s2 w_48 Z_40 (.slice ad L.length cap) (.int .i64 S)) Z_40 (.slice ad L.length cap) L S) := an_fin (show Kq w1 w_48 from K_49) hz_41 (show w_48.heap[Z_40]? = some (.cells #[.slice none 0 0, .int .i64 0] 40 (0, 0)) from R_51) HBB (show w_48.ownsRow (w_43).heap.size 51 11 (.slice ad L.length cap) L.length (L.flatMap pcl) from HRW) HNE
          obtain ⟨WF, hWF⟩ : ∃ WF, WF = s2 w_48 Z_40 (.slice ad L.length cap) (.int .i64 S) := ⟨_, rfl⟩
          rw [← hWF] at HAN
          unfold s2 at hWF
          rw [← hWF]
          clear hWF
          go_wp2_with fail
          go_meet
          exact ⟨Z_40, _, L, S, rfl, (⟨HAN, HPU⟩ : An _ _ _ _ _ _ ∧ Pu L S)⟩
      · intro K hK
        go_simp
        obtain ⟨Z_57, hZ⟩ : ∃ Z, Z = (w_1).heap.size := ⟨_, rfl⟩
        obtain ⟨w_53, hWn⟩ : ∃ Wn, Wn = ((w_1).alloc (.cells #[.slice none 0 0, .int .i64 0] 40)) := ⟨_, rfl⟩
        have gk : Kq (w_1) w_53 := by rw [hWn]; exact kq_alloc _ _ _
        have R_56 : Hid (w_53.heap[Z_57]? = some (.cells #[.slice none 0 0, .int .i64 0] 40 (0, 0))) := by rw [hWn, hZ]; exact alloc_new _ _
        have hz_58 : (w1).heap.size ≤ Z_57 := by rw [hZ]; exact (show Kq w1 (w_1) from K_2).size
        have K_54 : Hid (Kq w1 w_53) := Kq.trans K_2 gk
        have S_55 := HSX w_53 K_54
        have HO_59 : Hid (OwnP w_53 (.slice pt n ct) gt n F) := OwnP.kq HOT gk
        have hWd : (w_1).alloc (.cells #[.slice none 0 0, .int .i64 0] 40) = w_53 := hWn.symm
        have hZd : (w_1).heap.size = Z_57 := hZ.symm
        try simp only [hWd]
        try rw [hWd]
        try rw [hZd]
        clear gk hWn hWd hZ hZd
        refine hK.out _ _ (fun _ => S_55) ?_
        clear hK K
        try simp only [Act.put, List.setIfInBounds_toArray, List.set_cons_zero, List.set_cons_succ]
        refine AnyL.oneAt 3 rfl (by kernel_rfl) rfl ?_
        intro K hK
        go_simp
        refine (HTV (w_53)).mono ?_
        rintro e w_60 ⟨rfl, gk'⟩
        have gk : Kq _ w_60 := .of_grown gk'
        clear gk'
        have K_61 : Hid (Kq w1 w_60) := Kq.trans K_54 gk
        have S_62 := HSX w_60 K_61
        have R_63 : Hid (w_60.heap[Z_57]? = some (.cells #[.slice none 0 0, .int .i64 0] 40 (0, 0))) := (gk.block _ (lt_of_obj (show (w_53).heap[Z_57]? = some (.cells #[.slice none 0 0, .int .i64 0] 40 (0, 0)) from R_56))).trans R_56
        have HO_64 : Hid (OwnP w_60 (.slice pt n ct) gt n F) := OwnP.kq HO_59 gk
        clear gk
        refine hK.out _ _ (fun _ => S_62) ?_
        clear hK K
        try simp only [Act.put, List.setIfInBounds_toArray, List.set_cons_zero, List.set_cons_succ]
        refine AnyL.oneAt 5 rfl (by kernel_rfl) rfl ?_
        intro K hK
        go_simp
        refine (HTY (w_60)).mono ?_
        rintro e w_65 ⟨rfl, gk'⟩
        have gk : Kq _ w_65 := .of_grown gk'
        clear gk'
        have K_66 : Hid (Kq w1 w_65) := Kq.trans K_61 gk
        have S_67 := HSX w_65 K_66
        have R_68 : Hid (w_65.heap[Z_57]? = some (.cells #[.slice none 0 0, .int .i64 0] 40 (0, 0))) := (gk.block _ (lt_of_obj (show (w_60).heap[Z_57]? = some (.cells #[.slice none 0 0, .int .i64 0] 40 (0, 0)) from R_63))).trans R_63
        have HO_69 : Hid (OwnP w_65 (.slice pt n ct) gt n F) := OwnP.kq HO_64 gk
        clear gk
        refine hK.out _ _ (fun _ => S_67) ?_
        clear hK K
        try simp only [Act.put, List.setIfInBounds_toArray, List.set_cons_zero, List.set_cons_succ]
        refine AnyL.oneAt 6 rfl (by kernel_rfl) rfl ?_
        intro K hK
        go_simp
        refine (HSG (w_65) _ _ HO_69).mono ?_
        rintro e w_70 ⟨vp, L, S, rfl, hpu, hrw, gk⟩
        obtain ⟨ad, cap, rfl⟩ := row_shape hrw
        have HPU : Hid (Pu L S) := hpu
        have HRW : Hid (w_70.ownsRow (w_65).heap.size 51 11 (.slice ad L.length cap) L.length (L.flatMap pcl)) := hrw
        clear hpu hrw
        have K_71 : Hid (Kq w1 w_70) := Kq.trans K_66 gk
        have S_72 := HSX w_70 K_71
        have R_73 : Hid (w_70.heap[Z_57]? = some (.cells #[.slice none 0 0, .int .i64 0] 40 (0, 0))) := (gk.block _ (lt_of_obj (show (w_65).heap[Z_57]? = some (.cells #[.slice none 0 0, .int .i64 0] 40 (0, 0)) from R_68))).trans R_68
        have HO_74 : Hid (OwnP w_70 (.slice pt n ct) gt n F) := OwnP.kq HO_69 gk
        have HBB : (w1).heap.size ≤ (w_65).heap.size := (show Kq w1 (w_65) from K_66).size
        have HNE : Hid (∀ k, (Value.slice ad L.length cap).ownBlock = some k → k ≠ Z_57) := (fun k e => by have h1 := ((show w_70.ownsRow (w_65).heap.size 51 11 (.slice ad L.length cap) L.length (L.flatMap pcl) from HRW).lt k e).1; have h2 := lt_of_obj (show (w_65).heap[Z_57]? = some (.cells #[.slice none 0 0, .int .i64 0] 40 (0, 0)) from R_68); omega : ∀ k, _)
        clear gk
        refine hK.out _ _ (fun _ => S_72) ?_
        clear hK K
        try simp only [Act.put, List.setIfInBounds_toArray, List.set_cons_zero, List.set_cons_succ]
        obtain ⟨r0, r1, z0, z1⟩ := tz_cells (show w_70.heap[Z_57]? = some (.cells #[.slice none 0 0, .int .i64 0] 40 (0, 0)) from R_73)
        refine AnyL.oneAt 8 rfl (by kernel_rfl) rfl ?_
        intro K hK
        go_simp
        refine hK.out _ _ (fun h => absurd rfl h) ?_
        clear hK K
        refine AnyL.done (by kernel_rfl) ?_
        have HAN : Hid (An w1 (s2 w_70 Z_57 (.slice ad L.length cap) (.int .i64 S)) Z_57 (.slice ad L.length cap) L S) := an_fin (show Kq w1 w_70 from K_71) hz_58 (show w_70.heap[Z_57]? = some (.cells #[.slice none 0 0, .int .i64 0] 40 (0, 0)) from R_73) HBB (show w_70.ownsRow (w_65).heap.size 51 11 (.slice ad L.length cap) L.length (L.flatMap pcl) from HRW) HNE
        obtain ⟨WF, hWF⟩ : ∃ WF, WF = s2 w_70 Z_57 (.slice ad L.length cap) (.int .i64 S) := ⟨_, rfl⟩
        rw [← hWF] at HAN
        unfold s2 at hWF
        rw [← hWF]
        clear hWF
        go_wp2_with fail
        go_meet
        exact ⟨Z_57, _, L, S, rfl, (⟨HAN, HPU⟩ : An _ _ _ _ _ _ ∧ Pu L S)⟩
    · intro K hK
      go_simp
      obtain ⟨Z_79, hZ⟩ : ∃ Z, Z = (VD).heap.size := ⟨_, rfl⟩
      obtain ⟨w_75, hWn⟩ : ∃ Wn, Wn = ((VD).alloc (.cells #[.slice none 0 0, .int .i64 0] 40)) := ⟨_, rfl⟩
      have gk : Kq (VD) w_75 := by rw [hWn]; exact kq_alloc _ _ _
      have R_78 : Hid (w_75.heap[Z_79]? = some (.cells #[.slice none 0 0, .int .i64 0] 40 (0, 0))) := by rw [hWn, hZ]; exact alloc_new _ _
      have hz_80 : (w1).heap.size ≤ Z_79 := by rw [hZ]; exact (show Kq w1 (VD) from KD).size
      have K_76 : Hid (Kq w1 w_75) := Kq.trans KD gk
      have S_77 := HSX w_75 K_76
      have hWd : (VD).alloc (.cells #[.slice none 0 0, .int .i64 0] 40) = w_75 := hWn.symm
      have hZd : (VD).heap.size = Z_79 := hZ.symm
      try simp only [hWd]
      try rw [hWd]
      try rw [hZd]
      clear gk hWn hWd hZ hZd
      refine hK.out _ _ (fun _ => S_77) ?_
      clear hK K
      try simp only [Act.put, List.setIfInBounds_toArray, List.set_cons_zero, List.set_cons_succ]
      refine AnyL.oneAt 1 rfl (by kernel_rfl) rfl ?_
      intro K hK
      go_simp
      refine ((show ∀ W, Kq w1 W → _ from HTH) (w_75) (K_76)).mono ?_
      rintro e w_81 ⟨vt, gt, rfl, hot, _, _, gk⟩
      have HOT : Hid (OwnP w_81 vt gt n F) := hot
      obtain ⟨pt, ct, rfl, _⟩ := hot.sl
      clear hot
      have K_82 : Hid (Kq w1 w_81) := Kq.trans K_76 gk
      have S_83 := HSX w_81 K_82
      have R_84 : Hid (w_81.heap[Z_79]? = some (.cells #[.slice none 0 0, .int .i64 0] 40 (0, 0))) := (gk.block _ (lt_of_obj (show (w_75).heap[Z_79]? = some (.cells #[.slice none 0 0, .int .i64 0] 40 (0, 0)) from R_78))).trans R_78
      clear gk
      refine hK.out _ _ (fun _ => S_83) ?_
      clear hK K
      try simp only [Act.put, List.setIfInBounds_toArray, List.set_cons_zero, List.set_cons_succ]
      refine AnyL.oneAt 3 rfl (by kernel_rfl) rfl ?_
      intro K hK
      go_simp
      refine (HTV (w_81)).mono ?_
      rintro e w_85 ⟨rfl, gk'⟩
      have gk : Kq _ w_85 := .of_grown gk'
      clear gk'
      have K_86 : Hid (Kq w1 w_85) := Kq.trans K_82 gk
      have S_87 := HSX w_85 K_86
      have R_88 : Hid (w_85.heap[Z_79]? = some (.cells #[.slice none 0 0, .int .i64 0] 40 (0, 0))) := (gk.block _ (lt_of_obj (show (w_81).heap[Z_79]? = some (.cells #[.slice none 0 0, .int .i64 0] 40 (0, 0)) from R_84))).trans R_84
      have HO_89 : Hid (OwnP w_85 (.slice pt n ct) gt n F) := OwnP.kq HOT gk
      clear gk
      refine hK.out _ _ (fun _ => S_87) ?_
      clear hK K
      try simp only [Act.put, List.setIfInBounds_toArray, List.set_cons_zero, List.set_cons_succ]
      refine AnyL.oneAt 5 rfl (by kernel_rfl) rfl ?_
      intro K hK
      go_simp
      refine (HTY (w_85)).mono ?_
      rintro e w_90 ⟨rfl, gk'⟩
      have gk : Kq _ w_90 := .of_grown gk'
      clear gk'
      have K_91 : Hid (Kq w1 w_90) := Kq.trans K_86 gk
      have S_92 := HSX w_90 K_91
      have R_93 : Hid (w_90.heap[Z_79]? = some (.cells #[.slice none 0 0, .int .i64 0] 40 (0, 0))) := (gk.block _ (lt_of_obj (show (w_85).heap[Z_79]? = some (.cells #[.slice none 0 0, .int .i64 0] 40 (0, 0)) from R_88))).trans R_88
      have HO_94 : Hid (OwnP w_90 (.slice pt n ct) gt n F) := OwnP.kq HO_89 gk
      clear gk
      refine hK.out _ _ (fun _ => S_92) ?_
      clear hK K
      try simp only [Act.put, List.setIfInBounds_toArray, List.set_cons_zero, List.set_cons_succ]
      refine AnyL.oneAt 6 rfl (by kernel_rfl) rfl ?_
      intro K hK
      go_simp
      refine (HSG (w_90) _ _ HO_94).mono ?_
      rintro e w_95 ⟨vp, L, S, rfl, hpu, hrw, gk⟩
      obtain ⟨ad, cap, rfl⟩ := row_shape hrw
      have HPU : Hid (Pu L S) := hpu
      have HRW : Hid (w_95.ownsRow (w_90).heap.size 51 11 (.slice ad L.length cap) L.length (L.flatMap pcl)) := hrw
      clear hpu hrw
      have K_96 : Hid (Kq w1 w_95) := Kq.trans K_91 gk
      have S_97 := HSX w_95 K_96
      have R_98 : Hid (w_95.heap[Z_79]? = some (.cells #[.slice none 0 0, .int .i64 0] 40 (0, 0))) := (gk.block _ (lt_of_obj (show (w_90).heap[Z_79]? = some (.cells #[.slice none 0 0, .int .i64 0] 40 (0, 0)) from R_93))).trans R_93
      have HO_99 : Hid (OwnP w_95 (.slice pt n ct) gt n F) := OwnP.kq HO_94 gk
      have HBB : (w1).heap.size ≤ (w_90).heap.size := (show Kq w1 (w_90) from K_91).size
      have HNE : Hid (∀ k, (Value.slice ad L.length cap).ownBlock = some k → k ≠ Z_79) := (fun k e => by have h1 := ((show w_95.ownsRow (w_90).heap.size 51 11 (.slice ad L.length cap) L.length (L.flatMap pcl) from HRW).lt k e).1; have h2 := lt_of_obj (show (w_90).heap[Z_79]? = some (.cells #[.slice none 0 0, .int .i64 0] 40 (0, 0)) from R_93); omega : ∀ k, _)
      clear gk
      refine hK.out _ _ (fun _ => S_97) ?_
      clear hK K
      try simp only [Act.put, List.setIfInBounds_toArray, List.set_cons_zero, List.set_cons_succ]
      obtain ⟨r0, r1, z0, z1⟩ := tz_cells (show w_95.heap[Z_79]? = some (.cells #[.slice none 0 0, .int .i64 0] 40 (0, 0)) from R_98)
      refine AnyL.oneAt 8 rfl (by kernel_rfl) rfl ?_
      intro K hK
      go_simp
      refine hK.out _ _ (fun h => absurd rfl h) ?_
      clear hK K
      refine AnyL.done (by kernel_rfl) ?_
      have HAN : Hid (An w1 (s2 w_95 Z_79 (.slice ad L.length cap) (.int .i64 S)) Z_79 (.slice ad L.length cap) L S) := an_fin (show Kq w1 w_95 from K_96) hz_80 (show w_95.heap[Z_79]? = some (.cells #[.slice none 0 0, .int .i64 0] 40 (0, 0)) from R_98) HBB (show w_95.ownsRow (w_90).heap.size 51 11 (.slice ad L.length cap) L.length (L.flatMap pcl) from HRW) HNE
      obtain ⟨WF, hWF⟩ : ∃ WF, WF = s2 w_95 Z_79 (.slice ad L.length cap) (.int .i64 S) := ⟨_, rfl⟩
      rw [← hWF] at HAN
      unfold s2 at hWF
      rw [← hWF]
      clear hWF
      go_wp2_with fail
      go_meet
      exact ⟨Z_79, _, L, S, rfl, (⟨HAN, HPU⟩ : An _ _ _ _ _ _ ∧ Pu L S)⟩
  case rest =>
  obtain ⟨Z8, v8, L0, S0, rfl, HF⟩ := hcut
  clear HSG HK4
  have hF8 := (show An w1 wc Z8 v8 L0 S0 ∧ Pu L0 S0 from HF)
  obtain ⟨ad8, cap8, rfl⟩ := row_shape hF8.1.row
  have HA8 : Hid (An w1 wc Z8 (.slice ad8 L0.length cap8) L0 S0 ∧ Pu L0 S0) := hF8
  obtain ⟨a0, a1, _⟩ := HSX wc hF8.1.kq
  have kwc := hF8.1.kq
  clear HF hF8
  go_wp2_with fail
  refine ((show ∀ W, Kq w1 W → _ from HTH) wc kwc).mono ?_
  rintro e w5 ⟨v2, g9, rfl, ho2, hg9a, hg9b, k5⟩
  obtain ⟨pb, cb, rfl, _⟩ := ho2.sl
  obtain ⟨w6, hw6⟩ : ∃ w6, w6 = w5.alloc (.cells #[.slice pb n cb, .int .i64 T] 40) := ⟨_, rfl⟩
  have k6 : Kq w5 w6 := by rw [hw6]; exact kq_alloc _ _ _
  have z6 : w6.heap.size = w5.heap.size + 1 := by rw [hw6]; exact World.size_alloc _ _
  have x6 : w6.heap[w5.heap.size]? = some (.cells #[.slice pb n cb, .int .i64 T] 40 (0, 0)) := by rw [hw6]; exact alloc_new _ _
  have HO6 : Hid (OwnP w6 (.slice pb n cb) g9 n F) := ho2.kq k6
  have HK6 : Hid (Kq w1 w6 ∧ Kq wc w6) := (⟨kwc.trans (k5.trans k6), k5.trans k6⟩ : _ ∧ _)
  have HX6 : Hid (∀ W, Kq w6 W → W.cell? ⟨w5.heap.size, 0, none⟩ = some (.slice pb n cb) ∧ W.cell? ⟨w5.heap.size, 1, none⟩ = some (.int .i64 T)) := (fun W q => ⟨q.cell (cell_of x6 rfl), q.cell (cell_of x6 rfl)⟩ : ∀ W, Kq w6 W → _)
  clear ho2 k5 a0 a1 k6 x6
  go_upto_region 13 with fail
  rw [← hw6]
  clear hw6
  generalize w5.heap.size = X9 at HX6 z6 hg9b ⊢
  have HSY : ∀ W', Kq w6 W' → W'.cell? ⟨X9, 0, none⟩ = some (.slice pb n cb) ∧ W'.cell? ⟨X9, 1, none⟩ = some (.int .i64 T) ∧ Vc W' (w.heap.size + 1) ⟨k, m, g, x, r⟩ ∧ Vc W' (w.heap.size + 2) ⟨yk, ym, yg, yx, yr⟩ := fun W' q => ⟨((show ∀ W, Kq w6 W → _ from HX6) W' q).1, ((show ∀ W, Kq w6 W → _ from HX6) W' q).2, (HSX W' (Kq.trans (show Kq w1 w6 ∧ Kq wc w6 from HK6).1 q)).2.2⟩
  have kk := (show Kq w1 w6 ∧ Kq wc w6 from HK6).1.size
  clear w5
  go_cut [10] from 39 to 44 (fun s10 wx => ∃ (Z : Nat) (v : Value) (L : List Pv) (S : Int), s10 = .pointer (some ⟨Z, 0, none⟩) ∧ Hid (An w6 wx Z v L S ∧ Pu L S))
  case first =>
    clear HUQ HGLT TBH HSX0 HTH HX6 HA8 HSX
    refine AnyL.region (S := fun W' : World => W'.cell? ⟨X9, 0, none⟩ = some (.slice pb n cb) ∧ W'.cell? ⟨X9, 1, none⟩ = some (.int .i64 T) ∧ Vc W' (w.heap.size + 1) ⟨k, m, g, x, r⟩ ∧ Vc W' (w.heap.size + 2) ⟨yk, ym, yg, yx, yr⟩) (z := 7) (by kernel_rfl) ?_
    obtain ⟨VD, hVD⟩ : ∃ VD, VD = w6.drew := ⟨_, rfl⟩
    rw [← hVD]
    have KD : Hid (Kq w6 VD) := by rw [hVD]; exact Kq.drew (Kq.refl _)
    have hS0 : (fun W' : World => W'.cell? ⟨X9, 0, none⟩ = some (.slice pb n cb) ∧ W'.cell? ⟨X9, 1, none⟩ = some (.int .i64 T) ∧ Vc W' (w.heap.size + 1) ⟨k, m, g, x, r⟩ ∧ Vc W' (w.heap.size + 2) ⟨yk, ym, yg, yx, yr⟩) VD := HSY VD KD
    have HOD : Hid (OwnP VD (.slice pb n cb) g9 n F) := OwnP.kq HO6 KD
    clear hVD
    refine AnyL.takeAt 0 (.agg #[.slice pb n cb, .int .i64 T]) rfl (by kernel_rfl) (by kernel_rfl) (by kernel_rfl) (by kernel_rfl) (fun _ _ _ h => h) rfl hS0 (by intro W hW; obtain ⟨q0, q1, ⟨q2, q3, q4, q5, q6⟩, ⟨t2, t3, t4, t5, t6⟩⟩ := hW; go_simp) ?_
    try simp only [Act.put, List.setIfInBounds_toArray, List.set_cons_zero, List.set_cons_succ]
    refine AnyL.takeAt 1 (.agg #[.int .i64 k, .int .i64 m, .float .f64 g, .string x, .int .i64 r]) rfl (by kernel_rfl) (by kernel_rfl) (by kernel_rfl) (by kernel_rfl) (fun _ _ _ h => h) rfl hS0 (by intro W hW; obtain ⟨q0, q1, ⟨q2, q3, q4, q5, q6⟩, ⟨t2, t3, t4, t5, t6⟩⟩ := hW; go_simp) ?_
    try simp only [Act.put, List.setIfInBounds_toArray, List.set_cons_zero, List.set_cons_succ]
    refine AnyL.takeAt 3 (.agg #[.int .i64 yk, .int .i64 ym, .float .f64 yg, .string yx, .int .i64 yr]) rfl (by kernel_rfl) (by kernel_rfl) (by kernel_rfl) (by kernel_rfl) (fun _ _ _ h => h) rfl hS0 (by intro W hW; obtain ⟨q0, q1, ⟨q2, q3, q4, q5, q6⟩, ⟨t2, t3, t4, t5, t6⟩⟩ := hW; go_simp) ?_
    try simp only [Act.put, List.setIfInBounds_toArray, List.set_cons_zero, List.set_cons_succ]
    refine AnyL.two 2 6 rfl rfl (by kernel_rfl) rfl rfl ?_ ?_
    · intro K hK
      go_simp
      refine (HTV (VD)).mono ?_
      rintro e w_100 ⟨rfl, gk'⟩
      have gk : Kq _ w_100 := .of_grown gk'
      clear gk'
      have K_101 : Hid (Kq w6 w_100) := Kq.trans KD gk
      have S_102 := HSY w_100 K_101
      have HO_103 : Hid (OwnP w_100 (.slice pb n cb) g9 n F) := OwnP.kq HOD gk
      clear gk
      refine hK.out _ _ (fun _ => S_102) ?_
      clear hK K
      try simp only [Act.put, List.setIfInBounds_toArray, List.set_cons_zero, List.set_cons_succ]
      refine AnyL.two 4 6 rfl rfl (by kernel_rfl) rfl rfl ?_ ?_
      · intro K hK
        go_simp
        refine (HTY (w_100)).mono ?_
        rintro e w_104 ⟨rfl, gk'⟩
        have gk : Kq _ w_104 := .of_grown gk'
        clear gk'
        have K_105 : Hid (Kq w6 w_104) := Kq.trans K_101 gk
        have S_106 := HSY w_104 K_105
        have HO_107 : Hid (OwnP w_104 (.slice pb n cb) g9 n F) := OwnP.kq HO_103 gk
        clear gk
        refine hK.out _ _ (fun _ => S_106) ?_
        clear hK K
        try simp only [Act.put, List.setIfInBounds_toArray, List.set_cons_zero, List.set_cons_succ]
        refine AnyL.two 5 6 rfl rfl (by kernel_rfl) rfl rfl ?_ ?_
        · intro K hK
          go_simp
          refine (HIG (w_104) _ _ HO_107).mono ?_
          rintro e w_108 ⟨vp, L, S, rfl, hpu, hrw, gk⟩
          obtain ⟨ad, cap, rfl⟩ := row_shape hrw
          have HPU : Hid (Pu L S) := hpu
          have HRW : Hid (w_108.ownsRow (w_104).heap.size 51 11 (.slice ad L.length cap) L.length (L.flatMap pcl)) := hrw
          clear hpu hrw
          have K_109 : Hid (Kq w6 w_108) := Kq.trans K_105 gk
          have S_110 := HSY w_108 K_109
          have HO_111 : Hid (OwnP w_108 (.slice pb n cb) g9 n F) := OwnP.kq HO_107 gk
          have HBB : (w6).heap.size ≤ (w_104).heap.size := (show Kq w6 (w_104) from K_105).size
          clear gk
          refine hK.out _ _ (fun _ => S_110) ?_
          clear hK K
          try simp only [Act.put, List.setIfInBounds_toArray, List.set_cons_zero, List.set_cons_succ]
          refine AnyL.oneAt 6 rfl (by kernel_rfl) rfl ?_
          intro K hK
          go_simp
          obtain ⟨Z_116, hZ⟩ : ∃ Z, Z = (w_108).heap.size := ⟨_, rfl⟩
          obtain ⟨w_112, hWn⟩ : ∃ Wn, Wn = ((w_108).alloc (.cells #[.slice none 0 0, .int .i64 0] 40)) := ⟨_, rfl⟩
          have gk : Kq (w_108) w_112 := by rw [hWn]; exact kq_alloc _ _ _
          have R_115 : Hid (w_112.heap[Z_116]? = some (.cells #[.slice none 0 0, .int .i64 0] 40 (0, 0))) := by rw [hWn, hZ]; exact alloc_new _ _
          have hz_117 : (w6).heap.size ≤ Z_116 := by rw [hZ]; exact (show Kq w6 (w_108) from K_109).size
          have K_113 : Hid (Kq w6 w_112) := Kq.trans K_109 gk
          have S_114 := HSY w_112 K_113
          have HO_118 : Hid (OwnP w_112 (.slice pb n cb) g9 n F) := OwnP.kq HO_111 gk
          have RW_119 : Hid (w_112.ownsRow (w_104).heap.size 51 11 (.slice ad L.length cap) L.length (L.flatMap pcl)) := rowBlk (show (w_108).ownsRow (w_104).heap.size 51 11 (.slice ad L.length cap) L.length (L.flatMap pcl) from HRW) (fun k e => gk.block k ((show (w_108).ownsRow (w_104).heap.size 51 11 (.slice ad L.length cap) L.length (L.flatMap pcl) from HRW).lt k e).2)
          have HNE : Hid (∀ k, (Value.slice ad L.length cap).ownBlock = some k → k ≠ Z_116) := (fun k e => by have h1 := ((show (w_108).ownsRow (w_104).heap.size 51 11 (.slice ad L.length cap) L.length (L.flatMap pcl) from HRW).lt k e).2; omega : ∀ k, _)
          have hWd : (w_108).alloc (.cells #[.slice none 0 0, .int .i64 0] 40) = w_112 := hWn.symm
          have hZd : (w_108).heap.size = Z_116 := hZ.symm
          try simp only [hWd]
          try rw [hWd]
          try rw [hZd]
          clear gk hWn hWd hZ hZd
          refine hK.out _ _ (fun _ => S_114) ?_
          clear hK K
          try simp only [Act.put, List.setIfInBounds_toArray, List.set_cons_zero, List.set_cons_succ]
          obtain ⟨r0, r1, z0, z1⟩ := tz_cells (show w_112.heap[Z_116]? = some (.cells #[.slice none 0 0, .int .i64 0] 40 (0, 0)) from R_115)
          refine AnyL.oneAt 7 rfl (by kernel_rfl) rfl ?_
          intro K hK
          go_simp
          refine hK.out _ _ (fun h => absurd rfl h) ?_
          clear hK K
          refine AnyL.done (by kernel_rfl) ?_
          have HAN : Hid (An w6 (s2 w_112 Z_116 (.slice ad L.length cap) (.int .i64 S)) Z_116 (.slice ad L.length cap) L S) := an_fin (show Kq w6 w_112 from K_113) hz_117 (show w_112.heap[Z_116]? = some (.cells #[.slice none 0 0, .int .i64 0] 40 (0, 0)) from R_115) HBB (show w_112.ownsRow (w_104).heap.size 51 11 (.slice ad L.length cap) L.length (L.flatMap pcl) from RW_119) HNE
          obtain ⟨WF, hWF⟩ : ∃ WF, WF = s2 w_112 Z_116 (.slice ad L.length cap) (.int .i64 S) := ⟨_, rfl⟩
          rw [← hWF] at HAN
          unfold s2 at hWF
          rw [← hWF]
          clear hWF
          go_wp2_with fail
          go_meet
          exact ⟨Z_116, _, L, S, rfl, (⟨HAN, HPU⟩ : An _ _ _ _ _ _ ∧ Pu L S)⟩
        · intro K hK
          go_simp
          obtain ⟨Z_124, hZ⟩ : ∃ Z, Z = (w_104).heap.size := ⟨_, rfl⟩
          obtain ⟨w_120, hWn⟩ : ∃ Wn, Wn = ((w_104).alloc (.cells #[.slice none 0 0, .int .i64 0] 40)) := ⟨_, rfl⟩
          have gk : Kq (w_104) w_120 := by rw [hWn]; exact kq_alloc _ _ _
          have R_123 : Hid (w_120.heap[Z_124]? = some (.cells #[.slice none 0 0, .int .i64 0] 40 (0, 0))) := by rw [hWn, hZ]; exact alloc_new _ _
          have hz_125 : (w6).heap.size ≤ Z_124 := by rw [hZ]; exact (show Kq w6 (w_104) from K_105).size
          have K_121 : Hid (Kq w6 w_120) := Kq.trans K_105 gk
          have S_122 := HSY w_120 K_121
          have HO_126 : Hid (OwnP w_120 (.slice pb n cb) g9 n F) := OwnP.kq HO_107 gk
          have hWd : (w_104).alloc (.cells #[.slice none 0 0, .int .i64 0] 40) = w_120 := hWn.symm
          have hZd : (w_104).heap.size = Z_124 := hZ.symm
          try simp only [hWd]
          try rw [hWd]
          try rw [hZd]
          clear gk hWn hWd hZ hZd
          refine hK.out _ _ (fun _ => S_122) ?_
          clear hK K
          try simp only [Act.put, List.setIfInBounds_toArray, List.set_cons_zero, List.set_cons_succ]
          refine AnyL.oneAt 5 rfl (by kernel_rfl) rfl ?_
          intro K hK
          go_simp
          refine (HIG (w_120) _ _ HO_126).mono ?_
          rintro e w_127 ⟨vp, L, S, rfl, hpu, hrw, gk⟩
          obtain ⟨ad, cap, rfl⟩ := row_shape hrw
          have HPU : Hid (Pu L S) := hpu
          have HRW : Hid (w_127.ownsRow (w_120).heap.size 51 11 (.slice ad L.length cap) L.length (L.flatMap pcl)) := hrw
          clear hpu hrw
          have K_128 : Hid (Kq w6 w_127) := Kq.trans K_121 gk
          have S_129 := HSY w_127 K_128
          have R_130 : Hid (w_127.heap[Z_124]? = some (.cells #[.slice none 0 0, .int .i64 0] 40 (0, 0))) := (gk.block _ (lt_of_obj (show (w_120).heap[Z_124]? = some (.cells #[.slice none 0 0, .int .i64 0] 40 (0, 0)) from R_123))).trans R_123
          have HO_131 : Hid (OwnP w_127 (.slice pb n cb) g9 n F) := OwnP.kq HO_126 gk
          have HBB : (w6).heap.size ≤ (w_120).heap.size := (show Kq w6 (w_120) from K_121).size
          have HNE : Hid (∀ k, (Value.slice ad L.length cap).ownBlock = some k → k ≠ Z_124) := (fun k e => by have h1 := ((show w_127.ownsRow (w_120).heap.size 51 11 (.slice ad L.length cap) L.length (L.flatMap pcl) from HRW).lt k e).1; have h2 := lt_of_obj (show (w_120).heap[Z_124]? = some (.cells #[.slice none 0 0, .int .i64 0] 40 (0, 0)) from R_123); omega : ∀ k, _)
          clear gk
          refine hK.out _ _ (fun _ => S_129) ?_
          clear hK K
          try simp only [Act.put, List.setIfInBounds_toArray, List.set_cons_zero, List.set_cons_succ]
          obtain ⟨r0, r1, z0, z1⟩ := tz_cells (show w_127.heap[Z_124]? = some (.cells #[.slice none 0 0, .int .i64 0] 40 (0, 0)) from R_130)
          refine AnyL.oneAt 7 rfl (by kernel_rfl) rfl ?_
          intro K hK
          go_simp
          refine hK.out _ _ (fun h => absurd rfl h) ?_
          clear hK K
          refine AnyL.done (by kernel_rfl) ?_
          have HAN : Hid (An w6 (s2 w_127 Z_124 (.slice ad L.length cap) (.int .i64 S)) Z_124 (.slice ad L.length cap) L S) := an_fin (show Kq w6 w_127 from K_128) hz_125 (show w_127.heap[Z_124]? = some (.cells #[.slice none 0 0, .int .i64 0] 40 (0, 0)) from R_130) HBB (show w_127.ownsRow (w_120).heap.size 51 11 (.slice ad L.length cap) L.length (L.flatMap pcl) from HRW) HNE
          obtain ⟨WF, hWF⟩ : ∃ WF, WF = s2 w_127 Z_124 (.slice ad L.length cap) (.int .i64 S) := ⟨_, rfl⟩
          rw [← hWF] at HAN
          unfold s2 at hWF
          rw [← hWF]
          clear hWF
          go_wp2_with fail
          go_meet
          exact ⟨Z_124, _, L, S, rfl, (⟨HAN, HPU⟩ : An _ _ _ _ _ _ ∧ Pu L S)⟩
      · intro K hK
        go_simp
        obtain ⟨Z_136, hZ⟩ : ∃ Z, Z = (w_100).heap.size := ⟨_, rfl⟩
        obtain ⟨w_132, hWn⟩ : ∃ Wn, Wn = ((w_100).alloc (.cells #[.slice none 0 0, .int .i64 0] 40)) := ⟨_, rfl⟩
        have gk : Kq (w_100) w_132 := by rw [hWn]; exact kq_alloc _ _ _
        have R_135 : Hid (w_132.heap[Z_136]? = some (.cells #[.slice none 0 0, .int .i64 0] 40 (0, 0))) := by rw [hWn, hZ]; exact alloc_new _ _
        have hz_137 : (w6).heap.size ≤ Z_136 := by rw [hZ]; exact (show Kq w6 (w_100) from K_101).size
        have K_133 : Hid (Kq w6 w_132) := Kq.trans K_101 gk
        have S_134 := HSY w_132 K_133
        have HO_138 : Hid (OwnP w_132 (.slice pb n cb) g9 n F) := OwnP.kq HO_103 gk
        have hWd : (w_100).alloc (.cells #[.slice none 0 0, .int .i64 0] 40) = w_132 := hWn.symm
        have hZd : (w_100).heap.size = Z_136 := hZ.symm
        try simp only [hWd]
        try rw [hWd]
        try rw [hZd]
        clear gk hWn hWd hZ hZd
        refine hK.out _ _ (fun _ => S_134) ?_
        clear hK K
        try simp only [Act.put, List.setIfInBounds_toArray, List.set_cons_zero, List.set_cons_succ]
        refine AnyL.oneAt 4 rfl (by kernel_rfl) rfl ?_
        intro K hK
        go_simp
        refine (HTY (w_132)).mono ?_
        rintro e w_139 ⟨rfl, gk'⟩
        have gk : Kq _ w_139 := .of_grown gk'
        clear gk'
        have K_140 : Hid (Kq w6 w_139) := Kq.trans K_133 gk
        have S_141 := HSY w_139 K_140
        have R_142 : Hid (w_139.heap[Z_136]? = some (.cells #[.slice none 0 0, .int .i64 0] 40 (0, 0))) := (gk.block _ (lt_of_obj (show (w_132).heap[Z_136]? = some (.cells #[.slice none 0 0, .int .i64 0] 40 (0, 0)) from R_135))).trans R_135
        have HO_143 : Hid (OwnP w_139 (.slice pb n cb) g9 n F) := OwnP.kq HO_138 gk
        clear gk
        refine hK.out _ _ (fun _ => S_141) ?_
        clear hK K
        try simp only [Act.put, List.setIfInBounds_toArray, List.set_cons_zero, List.set_cons_succ]
        refine AnyL.oneAt 5 rfl (by kernel_rfl) rfl ?_
        intro K hK
        go_simp
        refine (HIG (w_139) _ _ HO_143).mono ?_
        rintro e w_144 ⟨vp, L, S, rfl, hpu, hrw, gk⟩
        obtain ⟨ad, cap, rfl⟩ := row_shape hrw
        have HPU : Hid (Pu L S) := hpu
        have HRW : Hid (w_144.ownsRow (w_139).heap.size 51 11 (.slice ad L.length cap) L.length (L.flatMap pcl)) := hrw
        clear hpu hrw
        have K_145 : Hid (Kq w6 w_144) := Kq.trans K_140 gk
        have S_146 := HSY w_144 K_145
        have R_147 : Hid (w_144.heap[Z_136]? = some (.cells #[.slice none 0 0, .int .i64 0] 40 (0, 0))) := (gk.block _ (lt_of_obj (show (w_139).heap[Z_136]? = some (.cells #[.slice none 0 0, .int .i64 0] 40 (0, 0)) from R_142))).trans R_142
        have HO_148 : Hid (OwnP w_144 (.slice pb n cb) g9 n F) := OwnP.kq HO_143 gk
        have HBB : (w6).heap.size ≤ (w_139).heap.size := (show Kq w6 (w_139) from K_140).size
        have HNE : Hid (∀ k, (Value.slice ad L.length cap).ownBlock = some k → k ≠ Z_136) := (fun k e => by have h1 := ((show w_144.ownsRow (w_139).heap.size 51 11 (.slice ad L.length cap) L.length (L.flatMap pcl) from HRW).lt k e).1; have h2 := lt_of_obj (show (w_139).heap[Z_136]? = some (.cells #[.slice none 0 0, .int .i64 0] 40 (0, 0)) from R_142); omega : ∀ k, _)
        clear gk
        refine hK.out _ _ (fun _ => S_146) ?_
        clear hK K
        try simp only [Act.put, List.setIfInBounds_toArray, List.set_cons_zero, List.set_cons_succ]
        obtain ⟨r0, r1, z0, z1⟩ := tz_cells (show w_144.heap[Z_136]? = some (.cells #[.slice none 0 0, .int .i64 0] 40 (0, 0)) from R_147)
        refine AnyL.oneAt 7 rfl (by kernel_rfl) rfl ?_
        intro K hK
        go_simp
        refine hK.out _ _ (fun h => absurd rfl h) ?_
        clear hK K
        refine AnyL.done (by kernel_rfl) ?_
        have HAN : Hid (An w6 (s2 w_144 Z_136 (.slice ad L.length cap) (.int .i64 S)) Z_136 (.slice ad L.length cap) L S) := an_fin (show Kq w6 w_144 from K_145) hz_137 (show w_144.heap[Z_136]? = some (.cells #[.slice none 0 0, .int .i64 0] 40 (0, 0)) from R_147) HBB (show w_144.ownsRow (w_139).heap.size 51 11 (.slice ad L.length cap) L.length (L.flatMap pcl) from HRW) HNE
        obtain ⟨WF, hWF⟩ : ∃ WF, WF = s2 w_144 Z_136 (.slice ad L.length cap) (.int .i64 S) := ⟨_, rfl⟩
        rw [← hWF] at HAN
        unfold s2 at hWF
        rw [← hWF]
        clear hWF
        go_wp2_with fail
        go_meet
        exact ⟨Z_136, _, L, S, rfl, (⟨HAN, HPU⟩ : An _ _ _ _ _ _ ∧ Pu L S)⟩
    · intro K hK
      go_simp
      obtain ⟨Z_153, hZ⟩ : ∃ Z, Z = (VD).heap.size := ⟨_, rfl⟩
      obtain ⟨w_149, hWn⟩ : ∃ Wn, Wn = ((VD).alloc (.cells #[.slice none 0 0, .int .i64 0] 40)) := ⟨_, rfl⟩
      have gk : Kq (VD) w_149 := by rw [hWn]; exact kq_alloc _ _ _
      have R_152 : Hid (w_149.heap[Z_153]? = some (.cells #[.slice none 0 0, .int .i64 0] 40 (0, 0))) := by rw [hWn, hZ]; exact alloc_new _ _
      have hz_154 : (w6).heap.size ≤ Z_153 := by rw [hZ]; exact (show Kq w6 (VD) from KD).size
      have K_150 : Hid (Kq w6 w_149) := Kq.trans KD gk
      have S_151 := HSY w_149 K_150
      have HO_155 : Hid (OwnP w_149 (.slice pb n cb) g9 n F) := OwnP.kq HOD gk
      have hWd : (VD).alloc (.cells #[.slice none 0 0, .int .i64 0] 40) = w_149 := hWn.symm
      have hZd : (VD).heap.size = Z_153 := hZ.symm
      try simp only [hWd]
      try rw [hWd]
      try rw [hZd]
      clear gk hWn hWd hZ hZd
      refine hK.out _ _ (fun _ => S_151) ?_
      clear hK K
      try simp only [Act.put, List.setIfInBounds_toArray, List.set_cons_zero, List.set_cons_succ]
      refine AnyL.oneAt 2 rfl (by kernel_rfl) rfl ?_
      intro K hK
      go_simp
      refine (HTV (w_149)).mono ?_
      rintro e w_156 ⟨rfl, gk'⟩
      have gk : Kq _ w_156 := .of_grown gk'
      clear gk'
      have K_157 : Hid (Kq w6 w_156) := Kq.trans K_150 gk
      have S_158 := HSY w_156 K_157
      have R_159 : Hid (w_156.heap[Z_153]? = some (.cells #[.slice none 0 0, .int .i64 0] 40 (0, 0))) := (gk.block _ (lt_of_obj (show (w_149).heap[Z_153]? = some (.cells #[.slice none 0 0, .int .i64 0] 40 (0, 0)) from R_152))).trans R_152
      have HO_160 : Hid (OwnP w_156 (.slice pb n cb) g9 n F) := OwnP.kq HO_155 gk
      clear gk
      refine hK.out _ _ (fun _ => S_158) ?_
      clear hK K
      try simp only [Act.put, List.setIfInBounds_toArray, List.set_cons_zero, List.set_cons_succ]
      refine AnyL.oneAt 4 rfl (by kernel_rfl) rfl ?_
      intro K hK
      go_simp
      refine (HTY (w_156)).mono ?_
      rintro e w_161 ⟨rfl, gk'⟩
      have gk : Kq _ w_161 := .of_grown gk'
      clear gk'
      have K_162 : Hid (Kq w6 w_161) := Kq.trans K_157 gk
      have S_163 := HSY w_161 K_162
      have R_164 : Hid (w_161.heap[Z_153]? = some (.cells #[.slice none 0 0, .int .i64 0] 40 (0, 0))) := (gk.block _ (lt_of_obj (show (w_156).heap[Z_153]? = some (.cells #[.slice none 0 0, .int .i64 0] 40 (0, 0)) from R_159))).trans R_159
      have HO_165 : Hid (OwnP w_161 (.slice pb n cb) g9 n F) := OwnP.kq HO_160 gk
      clear gk
      refine hK.out _ _ (fun _ => S_163) ?_
      clear hK K
      try simp only [Act.put, List.setIfInBounds_toArray, List.set_cons_zero, List.set_cons_succ]
      refine AnyL.oneAt 5 rfl (by kernel_rfl) rfl ?_
      intro K hK
      go_simp
      refine (HIG (w_161) _ _ HO_165).mono ?_
      rintro e w_166 ⟨vp, L, S, rfl, hpu, hrw, gk⟩
      obtain ⟨ad, cap, rfl⟩ := row_shape hrw
      have HPU : Hid (Pu L S) := hpu
      have HRW : Hid (w_166.ownsRow (w_161).heap.size 51 11 (.slice ad L.length cap) L.length (L.flatMap pcl)) := hrw
      clear hpu hrw
      have K_167 : Hid (Kq w6 w_166) := Kq.trans K_162 gk
      have S_168 := HSY w_166 K_167
      have R_169 : Hid (w_166.heap[Z_153]? = some (.cells #[.slice none 0 0, .int .i64 0] 40 (0, 0))) := (gk.block _ (lt_of_obj (show (w_161).heap[Z_153]? = some (.cells #[.slice none 0 0, .int .i64 0] 40 (0, 0)) from R_164))).trans R_164
      have HO_170 : Hid (OwnP w_166 (.slice pb n cb) g9 n F) := OwnP.kq HO_165 gk
      have HBB : (w6).heap.size ≤ (w_161).heap.size := (show Kq w6 (w_161) from K_162).size
      have HNE : Hid (∀ k, (Value.slice ad L.length cap).ownBlock = some k → k ≠ Z_153) := (fun k e => by have h1 := ((show w_166.ownsRow (w_161).heap.size 51 11 (.slice ad L.length cap) L.length (L.flatMap pcl) from HRW).lt k e).1; have h2 := lt_of_obj (show (w_161).heap[Z_153]? = some (.cells #[.slice none 0 0, .int .i64 0] 40 (0, 0)) from R_164); omega : ∀ k, _)
      clear gk
      refine hK.out _ _ (fun _ => S_168) ?_
      clear hK K
      try simp only [Act.put, List.setIfInBounds_toArray, List.set_cons_zero, List.set_cons_succ]
      obtain ⟨r0, r1, z0, z1⟩ := tz_cells (show w_166.heap[Z_153]? = some (.cells #[.slice none 0 0, .int .i64 0] 40 (0, 0)) from R_169)
      refine AnyL.oneAt 7 rfl (by kernel_rfl) rfl ?_
      intro K hK
      go_simp
      refine hK.out _ _ (fun h => absurd rfl h) ?_
      clear hK K
      refine AnyL.done (by kernel_rfl) ?_
      have HAN : Hid (An w6 (s2 w_166 Z_153 (.slice ad L.length cap) (.int .i64 S)) Z_153 (.slice ad L.length cap) L S) := an_fin (show Kq w6 w_166 from K_167) hz_154 (show w_166.heap[Z_153]? = some (.cells #[.slice none 0 0, .int .i64 0] 40 (0, 0)) from R_169) HBB (show w_166.ownsRow (w_161).heap.size 51 11 (.slice ad L.length cap) L.length (L.flatMap pcl) from HRW) HNE
      obtain ⟨WF, hWF⟩ : ∃ WF, WF = s2 w_166 Z_153 (.slice ad L.length cap) (.int .i64 S) := ⟨_, rfl⟩
      rw [← hWF] at HAN
      unfold s2 at hWF
      rw [← hWF]
      clear hWF
      go_wp2_with fail
      go_meet
      exact ⟨Z_153, _, L, S, rfl, (⟨HAN, HPU⟩ : An _ _ _ _ _ _ ∧ Pu L S)⟩
  case rest =>
  obtain ⟨Z10, v10, L, S, rfl, HF⟩ := hcut
  have hF10 := (show An w6 wc Z10 v10 L S ∧ Pu L S from HF)
  obtain ⟨rfl, rfl⟩ : L0 = L ∧ S0 = S := (show ∀ L S L' S', Pu L S → Pu L' S' → L = L' ∧ S = S' from HUQ) _ _ _ _ (show An w1 _ Z8 _ L0 S0 ∧ Pu L0 S0 from HA8).2 hF10.2
  obtain ⟨ad10, cap10, rfl⟩ := row_shape hF10.1.row
  have hF8 := (show An w1 _ Z8 (.slice ad8 L0.length cap8) L0 S0 ∧ Pu L0 S0 from HA8)
  have hk6 := (show Kq w1 w6 ∧ Kq _ w6 from HK6)
  obtain ⟨g8, o8, s8⟩ := own_list hF8.1.row
  obtain ⟨g10, o10, s10⟩ := own_list hF10.1.row
  have HW : Hid (Hw w1 Z8 X9 Z10 (.slice ad8 L0.length cap8) (.slice pb n cb) (.slice ad10 L0.length cap10) g8 g9 g10 n L0.length T S0 (nth L0) F (nth L0) wc) := (by
    have q1 := hF8.1.lo
    have q2 := hF8.1.hi
    have q3 := hF10.1.lo
    have q4 := hF10.1.ne
    have q5 := hk6.1.size
    have q6 := hk6.2.size
    refine ⟨hk6.1.trans hF10.1.kq, (hk6.2.trans hF10.1.kq).cell hF8.1.c0, (hk6.2.trans hF10.1.kq).cell hF8.1.c1, ((show ∀ W, Kq w6 W → _ from HX6) _ hF10.1.kq).1, ((show ∀ W, Kq w6 W → _ from HX6) _ hF10.1.kq).2, hF10.1.c0, hF10.1.c1, o8.kq (hk6.2.trans hF10.1.kq), OwnP.kq HO6 hF10.1.kq, o10, fun hn => ?_, fun hN => ?_⟩
    · refine ⟨by omega, by omega, by omega, by omega, fun hN => ?_⟩
      have := s8 hN
      have := s10 hN
      exact ⟨by omega, by omega⟩
    · have h1 := s8 hN
      have h2 := s10 hN
      exact ⟨by omega, by omega, by omega, Ne.symm (q4 g10 h2.2.2), by omega⟩ : Hw w1 Z8 X9 Z10 (.slice ad8 L0.length cap8) (.slice pb n cb) (.slice ad10 L0.length cap10) g8 g9 g10 n L0.length T S0 (nth L0) F (nth L0) wc)
  have hlen := ((show ∀ L S, Pu L S → _ from HGLT) _ _ hF10.2).1
  have HFB : Hid (∀ i, i < L0.length → (nth L0 i).a.g < 18446744073709551616 ∧ (nth L0 i).b.g < 18446744073709551616) := ((show ∀ L S, Pu L S → _ from HGLT) _ _ hF10.2).2
  have HPU0 : Hid (Pu L0 S0) := hF10.2
  clear HF hF10 hF8 hk6 HA8 HK6 HX6 HO6 HSY o8 s8 o10 s10 HGLT hg9a hg9b z6 kk kwc
  obtain ⟨_, h8a, h8b, h9a, h9b, h10a, h10b, _, _, _, _, _⟩ := (show Hw w1 Z8 X9 Z10 (.slice ad8 L0.length cap8) (.slice pb n cb) (.slice ad10 L0.length cap10) g8 g9 g10 n L0.length T S0 (nth L0) F (nth L0) wc from HW)
  have HE1 : Hid (Calls Try.prog 18 #[.agg #[(.slice ad10 L0.length cap10), .int .i64 S0], .agg #[(.slice ad8 L0.length cap8), .int .i64 S0]] wc fun e w' => e = .returned (.bool true) ∧ Kq wc w') := eq_table S0 wc (Hw.o10 HW) (Hw.o8 HW) hlen HFB
  go_wp2_with fail
  refine (show Calls Try.prog 18 _ wc _ from HE1).mono ?_
  rintro e w7 ⟨rfl, k7⟩
  have HW7 : Hid (Hw w1 Z8 X9 Z10 (.slice ad8 L0.length cap8) (.slice pb n cb) (.slice ad10 L0.length cap10) g8 g9 g10 n L0.length T S0 (nth L0) F (nth L0) w7) := Hw.on HW k7
  clear HE1 HW k7 h8a h8b h9a h9b h10a h10b
  have HSS : Hid (∀ W', Kq w7 W' → W'.cell? ⟨w.heap.size, 0, none⟩ = some (.slice pa n ca) ∧ W'.cell? ⟨w.heap.size, 1, none⟩ = some (.int .i64 T) ∧ W'.cell? ⟨X9, 0, none⟩ = some (.slice pb n cb) ∧ W'.cell? ⟨X9, 1, none⟩ = some (.int .i64 T)) := (fun W' q => ⟨(HSX W' (Kq.trans (Hw.kq HW7) q)).1, (HSX W' (Kq.trans (Hw.kq HW7) q)).2.1, q.cell (Hw.b0 HW7), q.cell (Hw.b1 HW7)⟩ : ∀ W', Kq w7 W' → _)
  go_wp2_with fail
  refine AnyL.region (S := fun W' : World => W'.cell? ⟨w.heap.size, 0, none⟩ = some (.slice pa n ca) ∧ W'.cell? ⟨w.heap.size, 1, none⟩ = some (.int .i64 T) ∧ W'.cell? ⟨X9, 0, none⟩ = some (.slice pb n cb) ∧ W'.cell? ⟨X9, 1, none⟩ = some (.int .i64 T)) (z := 99) (by kernel_rfl) ?_
  have hS0 : (fun W' : World => W'.cell? ⟨w.heap.size, 0, none⟩ = some (.slice pa n ca) ∧ W'.cell? ⟨w.heap.size, 1, none⟩ = some (.int .i64 T) ∧ W'.cell? ⟨X9, 0, none⟩ = some (.slice pb n cb) ∧ W'.cell? ⟨X9, 1, none⟩ = some (.int .i64 T)) w7.drew := (show ∀ W', Kq w7 W' → W'.cell? ⟨w.heap.size, 0, none⟩ = some (.slice pa n ca) ∧ W'.cell? ⟨w.heap.size, 1, none⟩ = some (.int .i64 T) ∧ W'.cell? ⟨X9, 0, none⟩ = some (.slice pb n cb) ∧ W'.cell? ⟨X9, 1, none⟩ = some (.int .i64 T) from HSS) w7.drew (Kq.drew (Kq.refl _))
  refine AnyL.takeAt 0 (.agg #[.slice pb n cb, .int .i64 T]) rfl (by kernel_rfl) (by kernel_rfl) (by kernel_rfl) (by kernel_rfl) (fun _ _ _ h => h) rfl hS0 (by intro W hW; obtain ⟨q0, q1, q2, q3⟩ := hW; go_simp) ?_
  try simp only [Act.put, List.setIfInBounds_toArray, List.set_cons_zero, List.set_cons_succ]
  refine AnyL.takeAt 1 (.agg #[.slice pa n ca, .int .i64 T]) rfl (by kernel_rfl) (by kernel_rfl) (by kernel_rfl) (by kernel_rfl) (fun _ _ _ h => h) rfl hS0 (by intro W hW; obtain ⟨q0, q1, q2, q3⟩ := hW; go_simp) ?_
  try simp only [Act.put, List.setIfInBounds_toArray, List.set_cons_zero, List.set_cons_succ]
  refine AnyL.oneAt 2 rfl (by kernel_rfl) rfl ?_
  intro K hK
  go_simp
  refine ((show ∀ W, Kq w1 W → _ from HTH) w7.drew (Kq.drew (Hw.kq HW7))).mono ?_
  rintro e w8 ⟨v3, g3, rfl, ho3, _, _, k8⟩
  have K8 : Hid (Kq w7 w8) := Kq.trans (Kq.drew (Kq.refl _)) k8
  have hS8 := (show ∀ W', Kq w7 W' → W'.cell? ⟨w.heap.size, 0, none⟩ = some (.slice pa n ca) ∧ W'.cell? ⟨w.heap.size, 1, none⟩ = some (.int .i64 T) ∧ W'.cell? ⟨X9, 0, none⟩ = some (.slice pb n cb) ∧ W'.cell? ⟨X9, 1, none⟩ = some (.int .i64 T) from HSS) w8 K8
  have HE : Hid (Calls Try.prog 18 #[.agg #[(.slice pb n cb), .int .i64 T], .agg #[v3, .int .i64 T]] w8 fun e w' => e = .returned (.bool true) ∧ Kq w8 w') := eq_table T w8 (OwnP.kq (Hw.o9 HW7) K8) ho3 (show Tb n F from TBH).len (fun i hi => ⟨((show Tb n F from TBH).a i hi).g, ((show Tb n F from TBH).b i hi).g⟩)
  obtain ⟨p3, c3, rfl, _⟩ := ho3.sl
  clear k8 ho3
  refine hK.out _ _ (fun _ => hS8) ?_
  clear hK K
  try simp only [Act.put, List.setIfInBounds_toArray, List.set_cons_zero, List.set_cons_succ]
  refine AnyL.oneAt 3 rfl (by kernel_rfl) rfl ?_
  intro K hK
  go_simp
  refine (show Calls Try.prog 18 #[.agg #[.slice pb n cb, .int .i64 T], .agg #[.slice p3 n c3, .int .i64 T]] w8 _ from HE).mono ?_
  rintro e w9 ⟨rfl, k9⟩
  have hS9 := (show ∀ W', Kq w7 W' → W'.cell? ⟨w.heap.size, 0, none⟩ = some (.slice pa n ca) ∧ W'.cell? ⟨w.heap.size, 1, none⟩ = some (.int .i64 T) ∧ W'.cell? ⟨X9, 0, none⟩ = some (.slice pb n cb) ∧ W'.cell? ⟨X9, 1, none⟩ = some (.int .i64 T) from HSS) w9 (Kq.trans K8 k9)
  have HW9 : Hid (Hw w1 Z8 X9 Z10 (.slice ad8 L0.length cap8) (.slice pb n cb) (.slice ad10 L0.length cap10) g8 g9 g10 n L0.length T S0 (nth L0) F (nth L0) w9) := Hw.on HW7 (Kq.trans K8 k9)
  clear k9
  refine hK.out _ _ (fun _ => hS9) ?_
  clear hK K
  try simp only [Act.put, List.setIfInBounds_toArray, List.set_cons_zero, List.set_cons_succ]
  refine AnyL.takeAt 4 (.bool false) rfl (by kernel_rfl) (by kernel_rfl) (by kernel_rfl) (by kernel_rfl) (fun _ _ _ h => h) rfl hS9 (by intro W hW; go_simp) ?_
  try simp only [Act.put, List.setIfInBounds_toArray, List.set_cons_zero, List.set_cons_succ]
  refine AnyL.done (by kernel_rfl) ?_
  clear hS0 hS8 hS9 HSS HE K8 HW7
  have hn9 : n ≤ 1048576 := (show Tb n F from TBH).len
  have h9a := Hw.b0 HW9
  have h9b := Hw.b1 HW9
  have HM : Hid (Calls Try.prog 24 #[.agg #[(.slice pb n cb), .int .i64 T], .int .i64 1] w9 fun e w' => e = .returned (.int .i64 (1 + 11 * (n : Int))) ∧ OwnP w' (.slice pb n cb) g9 n mpv ∧ Kx g9 n w9 w') := mark_table T w9 (Hw.o9 HW9) hn9
  go_wp2_with fail
  refine (show Calls Try.prog 24 _ w9 _ from HM).mono ?_
  rintro e w10 ⟨rfl, om, km⟩
  have HW10 : Hid (Hw w1 Z8 X9 Z10 (.slice ad8 L0.length cap8) (.slice pb n cb) (.slice ad10 L0.length cap10) g8 g9 g10 n L0.length T S0 (nth L0) mpv (nth L0) w10) := Hw.mk9 HW9 km om
  obtain ⟨k1, hk1⟩ : ∃ k1, k1 = 1 + 11 * (n : Int) := ⟨_, rfl⟩
  have hk1' : ¬ k1 < 0 := by omega
  rw [← hk1]
  clear HM om km h9a h9b HW9 hk1
  have h8a := Hw.a0 HW10
  have h8b := Hw.a1 HW10
  have h10a := Hw.c0 HW10
  have h10b := Hw.c1 HW10
  have HE1 : Hid (Calls Try.prog 18 #[.agg #[(.slice ad10 L0.length cap10), .int .i64 S0], .agg #[(.slice ad8 L0.length cap8), .int .i64 S0]] w10 fun e w' => e = .returned (.bool true) ∧ Kq w10 w') := eq_table S0 w10 (Hw.o10 HW10) (Hw.o8 HW10) hlen HFB
  go_wp2_with fail
  refine (show Calls Try.prog 18 _ w10 _ from HE1).mono ?_
  rintro e w11 ⟨rfl, k11⟩
  have HW11 : Hid (Hw w1 Z8 X9 Z10 (.slice ad8 L0.length cap8) (.slice pb n cb) (.slice ad10 L0.length cap10) g8 g9 g10 n L0.length T S0 (nth L0) mpv (nth L0) w11) := Hw.on HW10 k11
  clear HE1 HW10 k11 h8a h8b h10a h10b
  have h10a := Hw.c0 HW11
  have h10b := Hw.c1 HW11
  have HM : Hid (Calls Try.prog 24 #[.agg #[(.slice ad10 L0.length cap10), .int .i64 S0], .int .i64 1] w11 fun e w' => e = .returned (.int .i64 (1 + 11 * (L0.length : Int))) ∧ OwnP w' (.slice ad10 L0.length cap10) g10 L0.length mpv ∧ Kx g10 L0.length w11 w') := mark_table S0 w11 (Hw.o10 HW11) hlen
  go_wp2_with fail
  refine (show Calls Try.prog 24 _ w11 _ from HM).mono ?_
  rintro e w12 ⟨rfl, om, km⟩
  have HW12 : Hid (Hw w1 Z8 X9 Z10 (.slice ad8 L0.length cap8) (.slice pb n cb) (.slice ad10 L0.length cap10) g8 g9 g10 n L0.length T S0 (nth L0) mpv mpv w12) := Hw.mk10 HW11 km om
  obtain ⟨k2, hk2⟩ : ∃ k2, k2 = 1 + 11 * (L0.length : Int) := ⟨_, rfl⟩
  have HHL : Hid (∀ W, OwnP W (.slice ad10 L0.length cap10) g10 L0.length mpv → Calls Try.prog 25 #[.agg #[(.slice ad10 L0.length cap10), .int .i64 S0], .int .i64 1] W fun e w' => e = .returned (.int .i64 k2) ∧ Kq W w') := (fun W h => by rw [hk2]; exact held_table S0 W h hlen : ∀ W, _)
  have hk2' : ¬ k2 < 0 := by omega
  have hk3 : (k2 != k2) = false := by simp
  rw [← hk2]
  clear HM om km h10a h10b HW11 hk2
  have h10a := Hw.c0 HW12
  have h10b := Hw.c1 HW12
  go_wp2_with fail
  refine ((show ∀ W, OwnP W (.slice ad10 L0.length cap10) g10 L0.length mpv → _ from HHL) w12 (Hw.o10 HW12)).mono ?_
  rintro e w13 ⟨rfl, k13⟩
  have HW13 : Hid (Hw w1 Z8 X9 Z10 (.slice ad8 L0.length cap8) (.slice pb n cb) (.slice ad10 L0.length cap10) g8 g9 g10 n L0.length T S0 (nth L0) mpv mpv w13) := Hw.on HW12 k13
  clear HW12 k13 h10a h10b
  go_upto_region 30 with fail
  have HSZ3 : ∀ W', Kq w13 W' → W'.cell? ⟨w.heap.size, 0, none⟩ = some (.slice pa n ca) ∧ W'.cell? ⟨w.heap.size, 1, none⟩ = some (.int .i64 T) ∧ Vc W' (w.heap.size + 1) ⟨k, m, g, x, r⟩ ∧ Vc W' (w.heap.size + 2) ⟨yk, ym, yg, yx, yr⟩ := fun W' q => HSX W' (Kq.trans (Hw.kq HW13) q)
  have HKW : Hid (Kq w1 w13) := Hw.kq HW13
  go_cut [14] from 76 to 82 (fun s14 wx => ∃ (Z : Nat) (v : Value) (L : List Pv) (S : Int), s14 = .pointer (some ⟨Z, 0, none⟩) ∧ Hid (An w13 wx Z v L S ∧ Pu L S))
  case first =>
    clear HUQ TBH HSX0 HSX HHL HFB HPU0
    refine AnyL.region (S := fun W' : World => W'.cell? ⟨w.heap.size, 0, none⟩ = some (.slice pa n ca) ∧ W'.cell? ⟨w.heap.size, 1, none⟩ = some (.int .i64 T) ∧ Vc W' (w.heap.size + 1) ⟨k, m, g, x, r⟩ ∧ Vc W' (w.heap.size + 2) ⟨yk, ym, yg, yx, yr⟩) (z := 8) (by kernel_rfl) ?_
    obtain ⟨VD, hVD⟩ : ∃ VD, VD = w13.drew := ⟨_, rfl⟩
    rw [← hVD]
    have KD : Hid (Kq w13 VD) := by rw [hVD]; exact Kq.drew (Kq.refl _)
    have hS0 : (fun W' : World => W'.cell? ⟨w.heap.size, 0, none⟩ = some (.slice pa n ca) ∧ W'.cell? ⟨w.heap.size, 1, none⟩ = some (.int .i64 T) ∧ Vc W' (w.heap.size + 1) ⟨k, m, g, x, r⟩ ∧ Vc W' (w.heap.size + 2) ⟨yk, ym, yg, yx, yr⟩) VD := HSZ3 VD KD
    clear hVD HW13
    refine AnyL.takeAt 0 (.agg #[.slice pa n ca, .int .i64 T]) rfl (by kernel_rfl) (by kernel_rfl) (by kernel_rfl) (by kernel_rfl) (fun _ _ _ h => h) rfl hS0 (by intro W hW; obtain ⟨q0, q1, ⟨q2, q3, q4, q5, q6⟩, ⟨t2, t3, t4, t5, t6⟩⟩ := hW; go_simp) ?_
    try simp only [Act.put, List.setIfInBounds_toArray, List.set_cons_zero, List.set_cons_succ]
    refine AnyL.takeAt 2 (.agg #[.int .i64 k, .int .i64 m, .float .f64 g, .string x, .int .i64 r]) rfl (by kernel_rfl) (by kernel_rfl) (by kernel_rfl) (by kernel_rfl) (fun _ _ _ h => h) rfl hS0 (by intro W hW; obtain ⟨q0, q1, ⟨q2, q3, q4, q5, q6⟩, ⟨t2, t3, t4, t5, t6⟩⟩ := hW; go_simp) ?_
    try simp only [Act.put, List.setIfInBounds_toArray, List.set_cons_zero, List.set_cons_succ]
    refine AnyL.takeAt 4 (.agg #[.int .i64 yk, .int .i64 ym, .float .f64 yg, .string yx, .int .i64 yr]) rfl (by kernel_rfl) (by kernel_rfl) (by kernel_rfl) (by kernel_rfl) (fun _ _ _ h => h) rfl hS0 (by intro W hW; obtain ⟨q0, q1, ⟨q2, q3, q4, q5, q6⟩, ⟨t2, t3, t4, t5, t6⟩⟩ := hW; go_simp) ?_
    try simp only [Act.put, List.setIfInBounds_toArray, List.set_cons_zero, List.set_cons_succ]
    refine AnyL.two 1 7 rfl rfl (by kernel_rfl) rfl rfl ?_ ?_
    · intro K hK
      go_simp
      refine ((show ∀ W, Kq w1 W → _ from HTH) (VD) (Kq.trans HKW KD)).mono ?_
      rintro e w_171 ⟨vt, gt, rfl, hot, _, _, gk⟩
      have HOT : Hid (OwnP w_171 vt gt n F) := hot
      obtain ⟨pt, ct, rfl, _⟩ := hot.sl
      clear hot
      have K_172 : Hid (Kq w13 w_171) := Kq.trans KD gk
      have S_173 := HSZ3 w_171 K_172
      clear gk
      refine hK.out _ _ (fun _ => S_173) ?_
      clear hK K
      try simp only [Act.put, List.setIfInBounds_toArray, List.set_cons_zero, List.set_cons_succ]
      refine AnyL.two 3 7 rfl rfl (by kernel_rfl) rfl rfl ?_ ?_
      · intro K hK
        go_simp
        refine (HTV (w_171)).mono ?_
        rintro e w_174 ⟨rfl, gk'⟩
        have gk : Kq _ w_174 := .of_grown gk'
        clear gk'
        have K_175 : Hid (Kq w13 w_174) := Kq.trans K_172 gk
        have S_176 := HSZ3 w_174 K_175
        have HO_177 : Hid (OwnP w_174 (.slice pt n ct) gt n F) := OwnP.kq HOT gk
        clear gk
        refine hK.out _ _ (fun _ => S_176) ?_
        clear hK K
        try simp only [Act.put, List.setIfInBounds_toArray, List.set_cons_zero, List.set_cons_succ]
        refine AnyL.two 5 7 rfl rfl (by kernel_rfl) rfl rfl ?_ ?_
        · intro K hK
          go_simp
          refine (HTY (w_174)).mono ?_
          rintro e w_178 ⟨rfl, gk'⟩
          have gk : Kq _ w_178 := .of_grown gk'
          clear gk'
          have K_179 : Hid (Kq w13 w_178) := Kq.trans K_175 gk
          have S_180 := HSZ3 w_178 K_179
          have HO_181 : Hid (OwnP w_178 (.slice pt n ct) gt n F) := OwnP.kq HO_177 gk
          clear gk
          refine hK.out _ _ (fun _ => S_180) ?_
          clear hK K
          try simp only [Act.put, List.setIfInBounds_toArray, List.set_cons_zero, List.set_cons_succ]
          refine AnyL.two 6 7 rfl rfl (by kernel_rfl) rfl rfl ?_ ?_
          · intro K hK
            go_simp
            refine (HIG (w_178) _ _ HO_181).mono ?_
            rintro e w_182 ⟨vp, L, S, rfl, hpu, hrw, gk⟩
            obtain ⟨ad, cap, rfl⟩ := row_shape hrw
            have HPU : Hid (Pu L S) := hpu
            have HRW : Hid (w_182.ownsRow (w_178).heap.size 51 11 (.slice ad L.length cap) L.length (L.flatMap pcl)) := hrw
            clear hpu hrw
            have K_183 : Hid (Kq w13 w_182) := Kq.trans K_179 gk
            have S_184 := HSZ3 w_182 K_183
            have HO_185 : Hid (OwnP w_182 (.slice pt n ct) gt n F) := OwnP.kq HO_181 gk
            have HBB : (w13).heap.size ≤ (w_178).heap.size := (show Kq w13 (w_178) from K_179).size
            clear gk
            refine hK.out _ _ (fun _ => S_184) ?_
            clear hK K
            try simp only [Act.put, List.setIfInBounds_toArray, List.set_cons_zero, List.set_cons_succ]
            refine AnyL.oneAt 7 rfl (by kernel_rfl) rfl ?_
            intro K hK
            go_simp
            obtain ⟨Z_190, hZ⟩ : ∃ Z, Z = (w_182).heap.size := ⟨_, rfl⟩
            obtain ⟨w_186, hWn⟩ : ∃ Wn, Wn = ((w_182).alloc (.cells #[.slice none 0 0, .int .i64 0] 40)) := ⟨_, rfl⟩
            have gk : Kq (w_182) w_186 := by rw [hWn]; exact kq_alloc _ _ _
            have R_189 : Hid (w_186.heap[Z_190]? = some (.cells #[.slice none 0 0, .int .i64 0] 40 (0, 0))) := by rw [hWn, hZ]; exact alloc_new _ _
            have hz_191 : (w13).heap.size ≤ Z_190 := by rw [hZ]; exact (show Kq w13 (w_182) from K_183).size
            have K_187 : Hid (Kq w13 w_186) := Kq.trans K_183 gk
            have S_188 := HSZ3 w_186 K_187
            have HO_192 : Hid (OwnP w_186 (.slice pt n ct) gt n F) := OwnP.kq HO_185 gk
            have RW_193 : Hid (w_186.ownsRow (w_178).heap.size 51 11 (.slice ad L.length cap) L.length (L.flatMap pcl)) := rowBlk (show (w_182).ownsRow (w_178).heap.size 51 11 (.slice ad L.length cap) L.length (L.flatMap pcl) from HRW) (fun k e => gk.block k ((show (w_182).ownsRow (w_178).heap.size 51 11 (.slice ad L.length cap) L.length (L.flatMap pcl) from HRW).lt k e).2)
            have HNE : Hid (∀ k, (Value.slice ad L.length cap).ownBlock = some k → k ≠ Z_190) := (fun k e => by have h1 := ((show (w_182).ownsRow (w_178).heap.size 51 11 (.slice ad L.length cap) L.length (L.flatMap pcl) from HRW).lt k e).2; omega : ∀ k, _)
            have hWd : (w_182).alloc (.cells #[.slice none 0 0, .int .i64 0] 40) = w_186 := hWn.symm
            have hZd : (w_182).heap.size = Z_190 := hZ.symm
            try simp only [hWd]
            try rw [hWd]
            try rw [hZd]
            clear gk hWn hWd hZ hZd
            refine hK.out _ _ (fun _ => S_188) ?_
            clear hK K
            try simp only [Act.put, List.setIfInBounds_toArray, List.set_cons_zero, List.set_cons_succ]
            obtain ⟨r0, r1, z0, z1⟩ := tz_cells (show w_186.heap[Z_190]? = some (.cells #[.slice none 0 0, .int .i64 0] 40 (0, 0)) from R_189)
            refine AnyL.oneAt 8 rfl (by kernel_rfl) rfl ?_
            intro K hK
            go_simp
            refine hK.out _ _ (fun h => absurd rfl h) ?_
            clear hK K
            refine AnyL.done (by kernel_rfl) ?_
            have HAN : Hid (An w13 (s2 w_186 Z_190 (.slice ad L.length cap) (.int .i64 S)) Z_190 (.slice ad L.length cap) L S) := an_fin (show Kq w13 w_186 from K_187) hz_191 (show w_186.heap[Z_190]? = some (.cells #[.slice none 0 0, .int .i64 0] 40 (0, 0)) from R_189) HBB (show w_186.ownsRow (w_178).heap.size 51 11 (.slice ad L.length cap) L.length (L.flatMap pcl) from RW_193) HNE
            obtain ⟨WF, hWF⟩ : ∃ WF, WF = s2 w_186 Z_190 (.slice ad L.length cap) (.int .i64 S) := ⟨_, rfl⟩
            rw [← hWF] at HAN
            unfold s2 at hWF
            rw [← hWF]
            clear hWF
            go_wp2_with fail
            go_meet
            exact ⟨Z_190, _, L, S, rfl, (⟨HAN, HPU⟩ : An _ _ _ _ _ _ ∧ Pu L S)⟩
          · intro K hK
            go_simp
            obtain ⟨Z_198, hZ⟩ : ∃ Z, Z = (w_178).heap.size := ⟨_, rfl⟩
            obtain ⟨w_194, hWn⟩ : ∃ Wn, Wn = ((w_178).alloc (.cells #[.slice none 0 0, .int .i64 0] 40)) := ⟨_, rfl⟩
            have gk : Kq (w_178) w_194 := by rw [hWn]; exact kq_alloc _ _ _
            have R_197 : Hid (w_194.heap[Z_198]? = some (.cells #[.slice none 0 0, .int .i64 0] 40 (0, 0))) := by rw [hWn, hZ]; exact alloc_new _ _
            have hz_199 : (w13).heap.size ≤ Z_198 := by rw [hZ]; exact (show Kq w13 (w_178) from K_179).size
            have K_195 : Hid (Kq w13 w_194) := Kq.trans K_179 gk
            have S_196 := HSZ3 w_194 K_195
            have HO_200 : Hid (OwnP w_194 (.slice pt n ct) gt n F) := OwnP.kq HO_181 gk
            have hWd : (w_178).alloc (.cells #[.slice none 0 0, .int .i64 0] 40) = w_194 := hWn.symm
            have hZd : (w_178).heap.size = Z_198 := hZ.symm
            try simp only [hWd]
            try rw [hWd]
            try rw [hZd]
            clear gk hWn hWd hZ hZd
            refine hK.out _ _ (fun _ => S_196) ?_
            clear hK K
            try simp only [Act.put, List.setIfInBounds_toArray, List.set_cons_zero, List.set_cons_succ]
            refine AnyL.oneAt 6 rfl (by kernel_rfl) rfl ?_
            intro K hK
            go_simp
            refine (HIG (w_194) _ _ HO_200).mono ?_
            rintro e w_201 ⟨vp, L, S, rfl, hpu, hrw, gk⟩
            obtain ⟨ad, cap, rfl⟩ := row_shape hrw
            have HPU : Hid (Pu L S) := hpu
            have HRW : Hid (w_201.ownsRow (w_194).heap.size 51 11 (.slice ad L.length cap) L.length (L.flatMap pcl)) := hrw
            clear hpu hrw
            have K_202 : Hid (Kq w13 w_201) := Kq.trans K_195 gk
            have S_203 := HSZ3 w_201 K_202
            have R_204 : Hid (w_201.heap[Z_198]? = some (.cells #[.slice none 0 0, .int .i64 0] 40 (0, 0))) := (gk.block _ (lt_of_obj (show (w_194).heap[Z_198]? = some (.cells #[.slice none 0 0, .int .i64 0] 40 (0, 0)) from R_197))).trans R_197
            have HO_205 : Hid (OwnP w_201 (.slice pt n ct) gt n F) := OwnP.kq HO_200 gk
            have HBB : (w13).heap.size ≤ (w_194).heap.size := (show Kq w13 (w_194) from K_195).size
            have HNE : Hid (∀ k, (Value.slice ad L.length cap).ownBlock = some k → k ≠ Z_198) := (fun k e => by have h1 := ((show w_201.ownsRow (w_194).heap.size 51 11 (.slice ad L.length cap) L.length (L.flatMap pcl) from HRW).lt k e).1; have h2 := lt_of_obj (show (w_194).heap[Z_198]? = some (.cells #[.slice none 0 0, .int .i64 0] 40 (0, 0)) from R_197); omega : ∀ k, _)
            clear gk
            refine hK.out _ _ (fun _ => S_203) ?_
            clear hK K
            try simp only [Act.put, List.setIfInBounds_toArray, List.set_cons_zero, List.set_cons_succ]
            obtain ⟨r0, r1, z0, z1⟩ := tz_cells (show w_201.heap[Z_198]? = some (.cells #[.slice none 0 0, .int .i64 0] 40 (0, 0)) from R_204)
            refine AnyL.oneAt 8 rfl (by kernel_rfl) rfl ?_
            intro K hK
            go_simp
            refine hK.out _ _ (fun h => absurd rfl h) ?_
            clear hK K
            refine AnyL.done (by kernel_rfl) ?_
            have HAN : Hid (An w13 (s2 w_201 Z_198 (.slice ad L.length cap) (.int .i64 S)) Z_198 (.slice ad L.length cap) L S) := an_fin (show Kq w13 w_201 from K_202) hz_199 (show w_201.heap[Z_198]? = some (.cells #[.slice none 0 0, .int .i64 0] 40 (0, 0)) from R_204) HBB (show w_201.ownsRow (w_194).heap.size 51 11 (.slice ad L.length cap) L.length (L.flatMap pcl) from HRW) HNE
            obtain ⟨WF, hWF⟩ : ∃ WF, WF = s2 w_201 Z_198 (.slice ad L.length cap) (.int .i64 S) := ⟨_, rfl⟩
            rw [← hWF] at HAN
            unfold s2 at hWF
            rw [← hWF]
            clear hWF
            go_wp2_with fail
            go_meet
            exact ⟨Z_198, _, L, S, rfl, (⟨HAN, HPU⟩ : An _ _ _ _ _ _ ∧ Pu L S)⟩
        · intro K hK
          go_simp
          obtain ⟨Z_210, hZ⟩ : ∃ Z, Z = (w_174).heap.size := ⟨_, rfl⟩
          obtain ⟨w_206, hWn⟩ : ∃ Wn, Wn = ((w_174).alloc (.cells #[.slice none 0 0, .int .i64 0] 40)) := ⟨_, rfl⟩
          have gk : Kq (w_174) w_206 := by rw [hWn]; exact kq_alloc _ _ _
          have R_209 : Hid (w_206.heap[Z_210]? = some (.cells #[.slice none 0 0, .int .i64 0] 40 (0, 0))) := by rw [hWn, hZ]; exact alloc_new _ _
          have hz_211 : (w13).heap.size ≤ Z_210 := by rw [hZ]; exact (show Kq w13 (w_174) from K_175).size
          have K_207 : Hid (Kq w13 w_206) := Kq.trans K_175 gk
          have S_208 := HSZ3 w_206 K_207
          have HO_212 : Hid (OwnP w_206 (.slice pt n ct) gt n F) := OwnP.kq HO_177 gk
          have hWd : (w_174).alloc (.cells #[.slice none 0 0, .int .i64 0] 40) = w_206 := hWn.symm
          have hZd : (w_174).heap.size = Z_210 := hZ.symm
          try simp only [hWd]
          try rw [hWd]
          try rw [hZd]
          clear gk hWn hWd hZ hZd
          refine hK.out _ _ (fun _ => S_208) ?_
          clear hK K
          try simp only [Act.put, List.setIfInBounds_toArray, List.set_cons_zero, List.set_cons_succ]
          refine AnyL.oneAt 5 rfl (by kernel_rfl) rfl ?_
          intro K hK
          go_simp
          refine (HTY (w_206)).mono ?_
          rintro e w_213 ⟨rfl, gk'⟩
          have gk : Kq _ w_213 := .of_grown gk'
          clear gk'
          have K_214 : Hid (Kq w13 w_213) := Kq.trans K_207 gk
          have S_215 := HSZ3 w_213 K_214
          have R_216 : Hid (w_213.heap[Z_210]? = some (.cells #[.slice none 0 0, .int .i64 0] 40 (0, 0))) := (gk.block _ (lt_of_obj (show (w_206).heap[Z_210]? = some (.cells #[.slice none 0 0, .int .i64 0] 40 (0, 0)) from R_209))).trans R_209
          have HO_217 : Hid (OwnP w_213 (.slice pt n ct) gt n F) := OwnP.kq HO_212 gk
          clear gk
          refine hK.out _ _ (fun _ => S_215) ?_
          clear hK K
          try simp only [Act.put, List.setIfInBounds_toArray, List.set_cons_zero, List.set_cons_succ]
          refine AnyL.oneAt 6 rfl (by kernel_rfl) rfl ?_
          intro K hK
          go_simp
          refine (HIG (w_213) _ _ HO_217).mono ?_
          rintro e w_218 ⟨vp, L, S, rfl, hpu, hrw, gk⟩
          obtain ⟨ad, cap, rfl⟩ := row_shape hrw
          have HPU : Hid (Pu L S) := hpu
          have HRW : Hid (w_218.ownsRow (w_213).heap.size 51 11 (.slice ad L.length cap) L.length (L.flatMap pcl)) := hrw
          clear hpu hrw
          have K_219 : Hid (Kq w13 w_218) := Kq.trans K_214 gk
          have S_220 := HSZ3 w_218 K_219
          have R_221 : Hid (w_218.heap[Z_210]? = some (.cells #[.slice none 0 0, .int .i64 0] 40 (0, 0))) := (gk.block _ (lt_of_obj (show (w_213).heap[Z_210]? = some (.cells #[.slice none 0 0, .int .i64 0] 40 (0, 0)) from R_216))).trans R_216
          have HO_222 : Hid (OwnP w_218 (.slice pt n ct) gt n F) := OwnP.kq HO_217 gk
          have HBB : (w13).heap.size ≤ (w_213).heap.size := (show Kq w13 (w_213) from K_214).size
          have HNE : Hid (∀ k, (Value.slice ad L.length cap).ownBlock = some k → k ≠ Z_210) := (fun k e => by have h1 := ((show w_218.ownsRow (w_213).heap.size 51 11 (.slice ad L.length cap) L.length (L.flatMap pcl) from HRW).lt k e).1; have h2 := lt_of_obj (show (w_213).heap[Z_210]? = some (.cells #[.slice none 0 0, .int .i64 0] 40 (0, 0)) from R_216); omega : ∀ k, _)
          clear gk
          refine hK.out _ _ (fun _ => S_220) ?_
          clear hK K
          try simp only [Act.put, List.setIfInBounds_toArray, List.set_cons_zero, List.set_cons_succ]
          obtain ⟨r0, r1, z0, z1⟩ := tz_cells (show w_218.heap[Z_210]? = some (.cells #[.slice none 0 0, .int .i64 0] 40 (0, 0)) from R_221)
          refine AnyL.oneAt 8 rfl (by kernel_rfl) rfl ?_
          intro K hK
          go_simp
          refine hK.out _ _ (fun h => absurd rfl h) ?_
          clear hK K
          refine AnyL.done (by kernel_rfl) ?_
          have HAN : Hid (An w13 (s2 w_218 Z_210 (.slice ad L.length cap) (.int .i64 S)) Z_210 (.slice ad L.length cap) L S) := an_fin (show Kq w13 w_218 from K_219) hz_211 (show w_218.heap[Z_210]? = some (.cells #[.slice none 0 0, .int .i64 0] 40 (0, 0)) from R_221) HBB (show w_218.ownsRow (w_213).heap.size 51 11 (.slice ad L.length cap) L.length (L.flatMap pcl) from HRW) HNE
          obtain ⟨WF, hWF⟩ : ∃ WF, WF = s2 w_218 Z_210 (.slice ad L.length cap) (.int .i64 S) := ⟨_, rfl⟩
          rw [← hWF] at HAN
          unfold s2 at hWF
          rw [← hWF]
          clear hWF
          go_wp2_with fail
          go_meet
          exact ⟨Z_210, _, L, S, rfl, (⟨HAN, HPU⟩ : An _ _ _ _ _ _ ∧ Pu L S)⟩
      · intro K hK
        go_simp
        obtain ⟨Z_227, hZ⟩ : ∃ Z, Z = (w_171).heap.size := ⟨_, rfl⟩
        obtain ⟨w_223, hWn⟩ : ∃ Wn, Wn = ((w_171).alloc (.cells #[.slice none 0 0, .int .i64 0] 40)) := ⟨_, rfl⟩
        have gk : Kq (w_171) w_223 := by rw [hWn]; exact kq_alloc _ _ _
        have R_226 : Hid (w_223.heap[Z_227]? = some (.cells #[.slice none 0 0, .int .i64 0] 40 (0, 0))) := by rw [hWn, hZ]; exact alloc_new _ _
        have hz_228 : (w13).heap.size ≤ Z_227 := by rw [hZ]; exact (show Kq w13 (w_171) from K_172).size
        have K_224 : Hid (Kq w13 w_223) := Kq.trans K_172 gk
        have S_225 := HSZ3 w_223 K_224
        have HO_229 : Hid (OwnP w_223 (.slice pt n ct) gt n F) := OwnP.kq HOT gk
        have hWd : (w_171).alloc (.cells #[.slice none 0 0, .int .i64 0] 40) = w_223 := hWn.symm
        have hZd : (w_171).heap.size = Z_227 := hZ.symm
        try simp only [hWd]
        try rw [hWd]
        try rw [hZd]
        clear gk hWn hWd hZ hZd
        refine hK.out _ _ (fun _ => S_225) ?_
        clear hK K
        try simp only [Act.put, List.setIfInBounds_toArray, List.set_cons_zero, List.set_cons_succ]
        refine AnyL.oneAt 3 rfl (by kernel_rfl) rfl ?_
        intro K hK
        go_simp
        refine (HTV (w_223)).mono ?_
        rintro e w_230 ⟨rfl, gk'⟩
        have gk : Kq _ w_230 := .of_grown gk'
        clear gk'
        have K_231 : Hid (Kq w13 w_230) := Kq.trans K_224 gk
        have S_232 := HSZ3 w_230 K_231
        have R_233 : Hid (w_230.heap[Z_227]? = some (.cells #[.slice none 0 0, .int .i64 0] 40 (0, 0))) := (gk.block _ (lt_of_obj (show (w_223).heap[Z_227]? = some (.cells #[.slice none 0 0, .int .i64 0] 40 (0, 0)) from R_226))).trans R_226
        have HO_234 : Hid (OwnP w_230 (.slice pt n ct) gt n F) := OwnP.kq HO_229 gk
        clear gk
        refine hK.out _ _ (fun _ => S_232) ?_
        clear hK K
        try simp only [Act.put, List.setIfInBounds_toArray, List.set_cons_zero, List.set_cons_succ]
        refine AnyL.oneAt 5 rfl (by kernel_rfl) rfl ?_
        intro K hK
        go_simp
        refine (HTY (w_230)).mono ?_
        rintro e w_235 ⟨rfl, gk'⟩
        have gk : Kq _ w_235 := .of_grown gk'
        clear gk'
        have K_236 : Hid (Kq w13 w_235) := Kq.trans K_231 gk
        have S_237 := HSZ3 w_235 K_236
        have R_238 : Hid (w_235.heap[Z_227]? = some (.cells #[.slice none 0 0, .int .i64 0] 40 (0, 0))) := (gk.block _ (lt_of_obj (show (w_230).heap[Z_227]? = some (.cells #[.slice none 0 0, .int .i64 0] 40 (0, 0)) from R_233))).trans R_233
        have HO_239 : Hid (OwnP w_235 (.slice pt n ct) gt n F) := OwnP.kq HO_234 gk
        clear gk
        refine hK.out _ _ (fun _ => S_237) ?_
        clear hK K
        try simp only [Act.put, List.setIfInBounds_toArray, List.set_cons_zero, List.set_cons_succ]
        refine AnyL.oneAt 6 rfl (by kernel_rfl) rfl ?_
        intro K hK
        go_simp
        refine (HIG (w_235) _ _ HO_239).mono ?_
        rintro e w_240 ⟨vp, L, S, rfl, hpu, hrw, gk⟩
        obtain ⟨ad, cap, rfl⟩ := row_shape hrw
        have HPU : Hid (Pu L S) := hpu
        have HRW : Hid (w_240.ownsRow (w_235).heap.size 51 11 (.slice ad L.length cap) L.length (L.flatMap pcl)) := hrw
        clear hpu hrw
        have K_241 : Hid (Kq w13 w_240) := Kq.trans K_236 gk
        have S_242 := HSZ3 w_240 K_241
        have R_243 : Hid (w_240.heap[Z_227]? = some (.cells #[.slice none 0 0, .int .i64 0] 40 (0, 0))) := (gk.block _ (lt_of_obj (show (w_235).heap[Z_227]? = some (.cells #[.slice none 0 0, .int .i64 0] 40 (0, 0)) from R_238))).trans R_238
        have HO_244 : Hid (OwnP w_240 (.slice pt n ct) gt n F) := OwnP.kq HO_239 gk
        have HBB : (w13).heap.size ≤ (w_235).heap.size := (show Kq w13 (w_235) from K_236).size
        have HNE : Hid (∀ k, (Value.slice ad L.length cap).ownBlock = some k → k ≠ Z_227) := (fun k e => by have h1 := ((show w_240.ownsRow (w_235).heap.size 51 11 (.slice ad L.length cap) L.length (L.flatMap pcl) from HRW).lt k e).1; have h2 := lt_of_obj (show (w_235).heap[Z_227]? = some (.cells #[.slice none 0 0, .int .i64 0] 40 (0, 0)) from R_238); omega : ∀ k, _)
        clear gk
        refine hK.out _ _ (fun _ => S_242) ?_
        clear hK K
        try simp only [Act.put, List.setIfInBounds_toArray, List.set_cons_zero, List.set_cons_succ]
        obtain ⟨r0, r1, z0, z1⟩ := tz_cells (show w_240.heap[Z_227]? = some (.cells #[.slice none 0 0, .int .i64 0] 40 (0, 0)) from R_243)
        refine AnyL.oneAt 8 rfl (by kernel_rfl) rfl ?_
        intro K hK
        go_simp
        refine hK.out _ _ (fun h => absurd rfl h) ?_
        clear hK K
        refine AnyL.done (by kernel_rfl) ?_
        have HAN : Hid (An w13 (s2 w_240 Z_227 (.slice ad L.length cap) (.int .i64 S)) Z_227 (.slice ad L.length cap) L S) := an_fin (show Kq w13 w_240 from K_241) hz_228 (show w_240.heap[Z_227]? = some (.cells #[.slice none 0 0, .int .i64 0] 40 (0, 0)) from R_243) HBB (show w_240.ownsRow (w_235).heap.size 51 11 (.slice ad L.length cap) L.length (L.flatMap pcl) from HRW) HNE
        obtain ⟨WF, hWF⟩ : ∃ WF, WF = s2 w_240 Z_227 (.slice ad L.length cap) (.int .i64 S) := ⟨_, rfl⟩
        rw [← hWF] at HAN
        unfold s2 at hWF
        rw [← hWF]
        clear hWF
        go_wp2_with fail
        go_meet
        exact ⟨Z_227, _, L, S, rfl, (⟨HAN, HPU⟩ : An _ _ _ _ _ _ ∧ Pu L S)⟩
    · intro K hK
      go_simp
      obtain ⟨Z_249, hZ⟩ : ∃ Z, Z = (VD).heap.size := ⟨_, rfl⟩
      obtain ⟨w_245, hWn⟩ : ∃ Wn, Wn = ((VD).alloc (.cells #[.slice none 0 0, .int .i64 0] 40)) := ⟨_, rfl⟩
      have gk : Kq (VD) w_245 := by rw [hWn]; exact kq_alloc _ _ _
      have R_248 : Hid (w_245.heap[Z_249]? = some (.cells #[.slice none 0 0, .int .i64 0] 40 (0, 0))) := by rw [hWn, hZ]; exact alloc_new _ _
      have hz_250 : (w13).heap.size ≤ Z_249 := by rw [hZ]; exact (show Kq w13 (VD) from KD).size
      have K_246 : Hid (Kq w13 w_245) := Kq.trans KD gk
      have S_247 := HSZ3 w_245 K_246
      have hWd : (VD).alloc (.cells #[.slice none 0 0, .int .i64 0] 40) = w_245 := hWn.symm
      have hZd : (VD).heap.size = Z_249 := hZ.symm
      try simp only [hWd]
      try rw [hWd]
      try rw [hZd]
      clear gk hWn hWd hZ hZd
      refine hK.out _ _ (fun _ => S_247) ?_
      clear hK K
      try simp only [Act.put, List.setIfInBounds_toArray, List.set_cons_zero, List.set_cons_succ]
      refine AnyL.oneAt 1 rfl (by kernel_rfl) rfl ?_
      intro K hK
      go_simp
      refine ((show ∀ W, Kq w1 W → _ from HTH) (w_245) (Kq.trans HKW K_246)).mono ?_
      rintro e w_251 ⟨vt, gt, rfl, hot, _, _, gk⟩
      have HOT : Hid (OwnP w_251 vt gt n F) := hot
      obtain ⟨pt, ct, rfl, _⟩ := hot.sl
      clear hot
      have K_252 : Hid (Kq w13 w_251) := Kq.trans K_246 gk
      have S_253 := HSZ3 w_251 K_252
      have R_254 : Hid (w_251.heap[Z_249]? = some (.cells #[.slice none 0 0, .int .i64 0] 40 (0, 0))) := (gk.block _ (lt_of_obj (show (w_245).heap[Z_249]? = some (.cells #[.slice none 0 0, .int .i64 0] 40 (0, 0)) from R_248))).trans R_248
      clear gk
      refine hK.out _ _ (fun _ => S_253) ?_
      clear hK K
      try simp only [Act.put, List.setIfInBounds_toArray, List.set_cons_zero, List.set_cons_succ]
      refine AnyL.oneAt 3 rfl (by kernel_rfl) rfl ?_
      intro K hK
      go_simp
      refine (HTV (w_251)).mono ?_
      rintro e w_255 ⟨rfl, gk'⟩
      have gk : Kq _ w_255 := .of_grown gk'
      clear gk'
      have K_256 : Hid (Kq w13 w_255) := Kq.trans K_252 gk
      have S_257 := HSZ3 w_255 K_256
      have R_258 : Hid (w_255.heap[Z_249]? = some (.cells #[.slice none 0 0, .int .i64 0] 40 (0, 0))) := (gk.block _ (lt_of_obj (show (w_251).heap[Z_249]? = some (.cells #[.slice none 0 0, .int .i64 0] 40 (0, 0)) from R_254))).trans R_254
      have HO_259 : Hid (OwnP w_255 (.slice pt n ct) gt n F) := OwnP.kq HOT gk
      clear gk
      refine hK.out _ _ (fun _ => S_257) ?_
      clear hK K
      try simp only [Act.put, List.setIfInBounds_toArray, List.set_cons_zero, List.set_cons_succ]
      refine AnyL.oneAt 5 rfl (by kernel_rfl) rfl ?_
      intro K hK
      go_simp
      refine (HTY (w_255)).mono ?_
      rintro e w_260 ⟨rfl, gk'⟩
      have gk : Kq _ w_260 := .of_grown gk'
      clear gk'
      have K_261 : Hid (Kq w13 w_260) := Kq.trans K_256 gk
      have S_262 := HSZ3 w_260 K_261
      have R_263 : Hid (w_260.heap[Z_249]? = some (.cells #[.slice none 0 0, .int .i64 0] 40 (0, 0))) := (gk.block _ (lt_of_obj (show (w_255).heap[Z_249]? = some (.cells #[.slice none 0 0, .int .i64 0] 40 (0, 0)) from R_258))).trans R_258
      have HO_264 : Hid (OwnP w_260 (.slice pt n ct) gt n F) := OwnP.kq HO_259 gk
      clear gk
      refine hK.out _ _ (fun _ => S_262) ?_
      clear hK K
      try simp only [Act.put, List.setIfInBounds_toArray, List.set_cons_zero, List.set_cons_succ]
      refine AnyL.oneAt 6 rfl (by kernel_rfl) rfl ?_
      intro K hK
      go_simp
      refine (HIG (w_260) _ _ HO_264).mono ?_
      rintro e w_265 ⟨vp, L, S, rfl, hpu, hrw, gk⟩
      obtain ⟨ad, cap, rfl⟩ := row_shape hrw
      have HPU : Hid (Pu L S) := hpu
      have HRW : Hid (w_265.ownsRow (w_260).heap.size 51 11 (.slice ad L.length cap) L.length (L.flatMap pcl)) := hrw
      clear hpu hrw
      have K_266 : Hid (Kq w13 w_265) := Kq.trans K_261 gk
      have S_267 := HSZ3 w_265 K_266
      have R_268 : Hid (w_265.heap[Z_249]? = some (.cells #[.slice none 0 0, .int .i64 0] 40 (0, 0))) := (gk.block _ (lt_of_obj (show (w_260).heap[Z_249]? = some (.cells #[.slice none 0 0, .int .i64 0] 40 (0, 0)) from R_263))).trans R_263
      have HO_269 : Hid (OwnP w_265 (.slice pt n ct) gt n F) := OwnP.kq HO_264 gk
      have HBB : (w13).heap.size ≤ (w_260).heap.size := (show Kq w13 (w_260) from K_261).size
      have HNE : Hid (∀ k, (Value.slice ad L.length cap).ownBlock = some k → k ≠ Z_249) := (fun k e => by have h1 := ((show w_265.ownsRow (w_260).heap.size 51 11 (.slice ad L.length cap) L.length (L.flatMap pcl) from HRW).lt k e).1; have h2 := lt_of_obj (show (w_260).heap[Z_249]? = some (.cells #[.slice none 0 0, .int .i64 0] 40 (0, 0)) from R_263); omega : ∀ k, _)
      clear gk
      refine hK.out _ _ (fun _ => S_267) ?_
      clear hK K
      try simp only [Act.put, List.setIfInBounds_toArray, List.set_cons_zero, List.set_cons_succ]
      obtain ⟨r0, r1, z0, z1⟩ := tz_cells (show w_265.heap[Z_249]? = some (.cells #[.slice none 0 0, .int .i64 0] 40 (0, 0)) from R_268)
      refine AnyL.oneAt 8 rfl (by kernel_rfl) rfl ?_
      intro K hK
      go_simp
      refine hK.out _ _ (fun h => absurd rfl h) ?_
      clear hK K
      refine AnyL.done (by kernel_rfl) ?_
      have HAN : Hid (An w13 (s2 w_265 Z_249 (.slice ad L.length cap) (.int .i64 S)) Z_249 (.slice ad L.length cap) L S) := an_fin (show Kq w13 w_265 from K_266) hz_250 (show w_265.heap[Z_249]? = some (.cells #[.slice none 0 0, .int .i64 0] 40 (0, 0)) from R_268) HBB (show w_265.ownsRow (w_260).heap.size 51 11 (.slice ad L.length cap) L.length (L.flatMap pcl) from HRW) HNE
      obtain ⟨WF, hWF⟩ : ∃ WF, WF = s2 w_265 Z_249 (.slice ad L.length cap) (.int .i64 S) := ⟨_, rfl⟩
      rw [← hWF] at HAN
      unfold s2 at hWF
      rw [← hWF]
      clear hWF
      go_wp2_with fail
      go_meet
      exact ⟨Z_249, _, L, S, rfl, (⟨HAN, HPU⟩ : An _ _ _ _ _ _ ∧ Pu L S)⟩
  case rest =>
  obtain ⟨Z14, v14, L, S, rfl, HF⟩ := hcut
  have hF14 := (show An w13 wc Z14 v14 L S ∧ Pu L S from HF)
  obtain ⟨rfl, rfl⟩ : L0 = L ∧ S0 = S := (show ∀ L S L' S', Pu L S → Pu L' S' → L = L' ∧ S = S' from HUQ) _ _ _ _ (show Pu L0 S0 from HPU0) hF14.2
  obtain ⟨ad14, cap14, rfl⟩ := row_shape hF14.1.row
  obtain ⟨g14, o14, _⟩ := own_list hF14.1.row
  have HW14 : Hid (Hw w1 Z8 X9 Z10 (.slice ad8 L0.length cap8) (.slice pb n cb) (.slice ad10 L0.length cap10) g8 g9 g10 n L0.length T S0 (nth L0) mpv mpv wc) := Hw.on HW13 hF14.1.kq
  have HE1 : Hid (Calls Try.prog 18 #[.agg #[(.slice ad14 L0.length cap14), .int .i64 S0], .agg #[(.slice ad8 L0.length cap8), .int .i64 S0]] wc fun e w' => e = .returned (.bool true) ∧ Kq wc w') := eq_table S0 wc o14 (Hw.o8 HW14) hlen HFB
  have h14a := hF14.1.c0
  have h14b := hF14.1.c1
  have h8a := Hw.a0 HW14
  have h8b := Hw.a1 HW14
  clear HF hF14 o14 HW13 HKW HSZ3
  go_wp2_with fail
  refine (show Calls Try.prog 18 _ wc _ from HE1).mono ?_
  rintro e w15 ⟨rfl, k15⟩
  have HW15 : Hid (Hw w1 Z8 X9 Z10 (.slice ad8 L0.length cap8) (.slice pb n cb) (.slice ad10 L0.length cap10) g8 g9 g10 n L0.length T S0 (nth L0) mpv mpv w15) := Hw.on HW14 k15
  clear HE1 HW14 k15 h14a h14b h8a h8b
  have h10a := Hw.c0 HW15
  have h10b := Hw.c1 HW15
  go_wp2_with fail
  refine ((show ∀ W, OwnP W (.slice ad10 L0.length cap10) g10 L0.length mpv → _ from HHL) w15 (Hw.o10 HW15)).mono ?_
  rintro e w16 ⟨rfl, k16⟩
  have KE : Hid (Kq w w16) := Kq.trans HK (Kq.trans (Hw.kq HW15) k16)
  clear HW15 k16 h10a h10b HHL HFB HPU0 HUQ TBH HSX HSX0 HTH
  go_wp2_with fail
  go_ret
  exact ⟨rfl, KE⟩
end Go.Proofs.Ytfpidccjcemcjaa
