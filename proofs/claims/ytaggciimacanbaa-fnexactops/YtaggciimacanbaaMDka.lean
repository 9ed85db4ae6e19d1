import Derived.Test.YtaggciimacanbaaMDje
namespace Go.Proofs.Ytaggciimacanbaa.Fo
open Go.ChangeShapes Go.WideShapes Go.ChangeAt Go.RowKit
set_option linter.unusedVariables false
set_option maxRecDepth 100000
set_option linter.unusedSimpArgs false
/-- how many blocks n bytes take -/
def opn (n : Nat) : Nat := (n + 63) / 64
/-- the bytes of block j, zeros behind the end -/
def pcA (A : Nat → Int) (n j : Nat) : Nat → Int := fun i => if j * 64 + i < n then A (j * 64 + i) else 0
/-- the ops that lay an image down -/
def opF (A : Nat → Int) (n sl f : Nat) (G : Int) : Nat → Ed := fun j => if j < opn n then ⟨false, ((f + j : Nat) : Int), 64, pcA A n j⟩ else if j = opn n + 1 then ⟨false, (sl : Int), 64, hdb (G + 1) (n : Int) (sgz A n)⟩ else ⟨true, 0, 0, fun _ => 0⟩
theorem opF_p {A : Nat → Int} {n sl f : Nat} {G : Int} {j : Nat} (h : j < opn n) : opF A n sl f G j = ⟨false, ((f + j : Nat) : Int), 64, pcA A n j⟩ := if_pos h
theorem opF_s {A : Nat → Int} {n sl f : Nat} {G : Int} {j : Nat} (h : ¬ j < opn n) (h2 : ¬ j = opn n + 1) : opF A n sl f G j = ⟨true, 0, 0, fun _ => 0⟩ := by unfold opF; rw [if_neg h, if_neg h2]
theorem opF_h {A : Nat → Int} {n sl f : Nat} {G : Int} : opF A n sl f G (opn n + 1) = ⟨false, (sl : Int), 64, hdb (G + 1) (n : Int) (sgz A n)⟩ := by unfold opF; rw [if_neg (by omega), if_pos rfl]
/-- bytes that can be read, in blocks from lo on -/
def RdB (lo : Nat) (W : World) (v : Value) (c : Nat) (A : Nat → Int) (no : Option Nat) : Prop := ∃ pa cap, v = .slice pa c cap ∧ (0 < c → ∃ a : Addr, pa = some a ∧ c ≤ cap ∧ lo ≤ a.block ∧ a.block < W.heap.size ∧ some a.block ≠ no ∧ ∀ j, j < c → W.cell? (a.add j) = some (.int .u8 (A j)))
/-- a row of ops that grows by appends; its bytes can be read -/
structure BRd (B : Nat) (W : World) (v : Value) (n : Nat) (F : Nat → Ed) (V : Nat → Value) : Prop where
  ro : W.ownsRow B 96 3 v n (cel 3 F V n)
  rd : ∀ i, i < n → RdB B W (V i) (F i).c (F i).A v.ownBlock
theorem BRd.nil (B : Nat) (W : World) (F : Nat → Ed) (V : Nat → Value) : BRd B W (.slice none 0 0) 0 F V := ⟨World.ownsRow_nil _ _ _ _, fun i hi => absurd hi (Nat.not_lt_zero _)⟩
theorem BRd.keep {B : Nat} {W W' : World} {v : Value} {n : Nat} {F : Nat → Ed} {V : Nat → Value} (h : BRd B W v n F V) (hs : W.heap.size ≤ W'.heap.size) (k : ∀ q, B ≤ q → q < W.heap.size → W'.heap[q]? = W.heap[q]?) : BRd B W' v n F V := by
  refine ⟨own_keep h.ro (fun g hg => k g (h.ro.lt g hg).1 (h.ro.lt g hg).2), fun i hi => ?_⟩
  obtain ⟨pa, cap, e, h2⟩ := h.rd i hi
  refine ⟨pa, cap, e, fun hc => ?_⟩
  obtain ⟨a, q1, q2, q3, q4, q5, q6⟩ := h2 hc
  exact ⟨a, q1, q2, q3, by omega, q5, fun j hj => (World.cell?_of_block (by rw [add_block]; exact k _ q3 q4)).trans (q6 j hj)⟩
theorem BRd.step {B : Nat} {W W6 W8 : World} {v : Value} {n : Nat} {F : Nat → Ed} {V : Nat → Value} {ob : Obj} {vx : Value} {g cap : Nat} (h : BRd B W v n F V) (hB : B ≤ W.heap.size) (k6 : Kb 0 W W6) (ox : RdB W.heap.size W6 vx (F n).c (F n).A none)
    (h8 : W8.ownsRow B 96 3 (.slice (some ⟨g, 0, none⟩) (n + 1) cap) (n + 1) (cel 3 F V n ++ (hdl 3 (F n) ++ [vx]))) (g8 : (W6.alloc ob).grownBy W8 v.ownBlock) (ha : v.ownBlock = some g ∨ g = W6.heap.size + 1) :
    BRd B W8 (.slice (some ⟨g, 0, none⟩) (n + 1) cap) (n + 1) F (fun q => if q = n then vx else V q) := by
  have z6 := k6.size
  have z8 : W6.heap.size + 1 ≤ W8.heap.size := by have := g8.size; rw [World.size_alloc] at this; exact this
  have b8 : ∀ q, q < W6.heap.size → some q ≠ v.ownBlock → W8.heap[q]? = W6.heap[q]? := fun q hq hn => (g8.block q (by rw [World.size_alloc]; omega) hn).trans ((kb_alloc 0 W6 ob).block q (Nat.zero_le _) hq)
  have ng : ∀ q, q < W6.heap.size → some q ≠ v.ownBlock → some q ≠ (Value.slice (some ⟨g, 0, none⟩) (n + 1) cap).ownBlock := fun q hq hn e => by
    have e' : q = g := by simpa [Value.ownBlock] using e
    rcases ha with a | a
    · exact hn (by rw [a, e'])
    · omega
  refine ⟨?_, fun i hi => ?_⟩
  · rw [cel, if_pos rfl, ← cel_ext 3 F (V := V) (V' := fun q => if q = n then vx else V q) n (fun j hj => (if_neg (by omega)).symm)]
    exact h8
  · rcases Nat.lt_or_ge i n with q | q
    · show RdB B W8 (if i = n then vx else V i) _ _ _
      rw [if_neg (by omega)]
      obtain ⟨pa, c', e, h2⟩ := h.rd i q
      refine ⟨pa, c', e, fun hc => ?_⟩
      obtain ⟨a, q1, q2, q3, q4, q5, q6⟩ := h2 hc
      exact ⟨a, q1, q2, q3, by omega, ng _ (by omega) q5, fun j hj => (World.cell?_of_block (by rw [add_block]; exact b8 _ (by omega) q5)).trans (k6.cell (q6 j hj))⟩
    · obtain rfl : i = n := by omega
      show RdB B W8 (if i = i then vx else V i) _ _ _
      rw [if_pos rfl]
      obtain ⟨pa, c', e, h2⟩ := ox
      refine ⟨pa, c', e, fun hc => ?_⟩
      obtain ⟨a, q1, q2, q3, q4, -, q6⟩ := h2 hc
      have nb : some a.block ≠ v.ownBlock := fun e => by have := (h.ro.lt _ e.symm).2; omega
      exact ⟨a, q1, q2, by omega, by omega, ng _ q4 nb, fun j hj => (World.cell?_of_block (by rw [add_block]; exact b8 _ q4 nb)).trans (q6 j hj)⟩
theorem BRd.rowE {B : Nat} {W : World} {v : Value} {n : Nat} {F : Nat → Ed} {V : Nat → Value} (h : BRd B W v n F V) : RowE 3 0 W v n F := by
  obtain ⟨ad, cap, rfl⟩ := own_shape h.ro
  refine ⟨ad, cap, rfl, fun hn => ?_⟩
  obtain ⟨g, cap', eg, hgd, hgc, hcell⟩ := own_cells h.ro hn
  injection eg with eg1 _ eg3
  refine ⟨⟨g, 0, none⟩, eg1, by omega, Nat.zero_le _, fun i hi => ?_⟩
  have hc : ∀ t, t < 3 → W.cell? ⟨g, i * 3 + t, none⟩ = (hdl 3 (F i) ++ [V i])[t]? := fun t ht => by
    have : (i + 1) * 3 ≤ n * 3 := Nat.mul_le_mul_right 3 hi
    rw [hcell (i * 3 + t) (by omega)]
    exact cel_at (.inr (.inr rfl)) F V t ht n i hi
  refine ⟨V i, ?_, fun t t0 t1 => ?_, ?_⟩
  · rw [addr0]
    have := hc 0 (by omega)
    exact this
  · rw [addr0]
    exact hc t t1
  · obtain ⟨pa, c', e, h2⟩ := h.rd i hi
    refine ⟨pa, c', e, fun hc => ?_⟩
    obtain ⟨a, q1, q2, q3, q4, q5, q6⟩ := h2 hc
    exact ⟨a, q1, q2, Nat.zero_le _, q6⟩
theorem infoOp : ∃ i1, Try.prog.info? 96 = some i1 ∧ i1.zero = some (.agg #[.bool false, .int .i64 0, .slice none 0 0]) ∧ i1.size = 3 ∧ i1.bytes = 40 := ⟨Try.t96, by kernel_rfl, by kernel_rfl, by kernel_rfl, by kernel_rfl⟩
end Go.Proofs.Ytaggciimacanbaa.Fo
