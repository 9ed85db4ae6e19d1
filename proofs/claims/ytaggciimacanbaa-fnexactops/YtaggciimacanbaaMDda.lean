import Derived.Test.YtaggciimacanbaaMDcf
namespace Go.Proofs.Ytaggciimacanbaa.Fo
open Go.ChangeShapes Go.WideShapes Go.ChangeAt Go.RowKit
set_option linter.unusedVariables false
set_option maxRecDepth 100000
/-- the cells of the first n writes that wait -/
def pcl (Q : Nat → Ed) : Nat → List Value
  | 0 => []
  | n + 1 => pcl Q n ++ (.int .i64 (Q n).b :: pgl (Q n).A)
theorem pcl_len (Q : Nat → Ed) : ∀ n, (pcl Q n).length = n * 65
  | 0 => rfl
  | n + 1 => by rw [pcl, List.length_append, pcl_len Q n, List.length_cons, pgl_len, Nat.add_mul, Nat.one_mul]
theorem pcl_at (Q : Nat → Ed) (t : Nat) (ht : t < 65) : ∀ n j, j < n → (pcl Q n)[j * 65 + t]? = (.int .i64 (Q j).b :: pgl (Q j).A)[t]?
  | 0, j, h => by omega
  | n + 1, j, h => by
    rw [pcl]
    rcases Nat.lt_or_ge j n with q | q
    · rw [List.getElem?_append_left (by rw [pcl_len]; omega)]
      exact pcl_at Q t ht n j q
    · obtain rfl : j = n := by omega
      rw [List.getElem?_append_right (by rw [pcl_len]; omega), pcl_len, Nat.add_sub_cancel_left]
theorem pcl_ext {Q Q' : Nat → Ed} : ∀ n, (∀ j, j < n → Q j = Q' j) → pcl Q n = pcl Q' n
  | 0, _ => rfl
  | n + 1, h => by rw [pcl, pcl, pcl_ext n (fun j hj => h j (by omega)), h n (by omega)]
/-- pages, one of them changed -/
def pup (P : Nat → Nat → Int) (i : Nat) (A : Nat → Int) : Nat → Nat → Int := fun k => if k = i then A else P k
theorem pgs_range {W : World} {b : Nat} {P : Nat → Nat → Int} {n : Nat} : W.rangeAt b 0 (pgs P n) ↔ ∀ i, i < n → ∀ j, j < 64 → W.cell? ⟨b, i * 64 + j, none⟩ = some (.int .u8 (P i j)) := by
  constructor
  · intro h i hi j hj
    have := h (i * 64 + j) _ (pgs_at P j hj n i hi)
    rw [Nat.zero_add] at this
    exact this
  · intro h k v hv
    have hk : k < n * 64 := by have := (List.getElem?_eq_some_iff.1 hv).1; rw [pgs_len] at this; exact this
    have e : k = (k / 64) * 64 + k % 64 := by omega
    have h2 := pgs_at P (k % 64) (by omega) n (k / 64) (by omega)
    rw [← e, hv] at h2
    rw [Nat.zero_add]
    injection h2 with h2
    rw [h2]
    have := h (k / 64) (by omega) (k % 64) (by omega)
    rw [← e] at this
    exact this
theorem setCells_blk (b : Nat) {t : TypeId} : ∀ (vs : List Value) (o : Nat) (w : World) (c : Array Value), w.heap[b]? = some (.cells c t (0, 0)) → ∃ c', (w.setCells b o vs).heap[b]? = some (.cells c' t (0, 0)) ∧ c'.size = c.size
  | [], _, _, c, h => ⟨c, h, rfl⟩
  | v :: r, o, w, c, h => by
    rw [World.setCells]
    obtain ⟨c', h1, h2⟩ := setCells_blk b r (o + 1) (w.setCell ⟨b, o, none⟩ v) _ (set_known _ h)
    exact ⟨c', h1, by rw [h2]; simp⟩
/-- a drive in memory: block dv, none of whose rows lie before it; w0 is the world before it -/
structure Dr (w0 : World) (dv : Nat) (P : Nat → Nat → Int) (m : Nat) (Q : Nat → Ed) (vw : Value) (W : World) : Prop where
  kb : Kb 0 w0 W
  ge : w0.heap.size ≤ dv
  lt : dv < W.heap.size
  bl : ∃ c, W.heap[dv]? = some (.cells c 124 (0, 0)) ∧ c.size = 16513
  rg : W.rangeAt dv 0 (pgs P 258)
  wt : W.cell? ⟨dv, 16512, none⟩ = some vw
  ro : W.ownsRow (dv + 1) 140 65 vw m (pcl Q m)
theorem Dr.keep {w0 : World} {dv : Nat} {P : Nat → Nat → Int} {m : Nat} {Q : Nat → Ed} {vw : Value} {W W' : World} (h : Dr w0 dv P m Q vw W) (k : Kb 0 W W') : Dr w0 dv P m Q vw W' := by
  obtain ⟨c, hc, hs⟩ := h.bl
  exact ⟨h.kb.trans k, h.ge, Nat.lt_of_lt_of_le h.lt k.size, ⟨c, (k.block _ (Nat.zero_le _) h.lt).trans hc, hs⟩, fun j v hv => k.cell (h.rg j v hv), k.cell h.wt, own_keep h.ro (fun g hg => k.block g (Nat.zero_le _) (h.ro.lt g hg).2)⟩
theorem Dr.low {w0 w1 : World} {dv : Nat} {P : Nat → Nat → Int} {m : Nat} {Q : Nat → Ed} {vw : Value} {W : World} (h : Dr w0 dv P m Q vw W) (k : Kb 0 w1 w0) : Dr w1 dv P m Q vw W := ⟨k.trans h.kb, Nat.le_trans k.size h.ge, h.lt, h.bl, h.rg, h.wt, h.ro⟩
theorem Dr.shape {w0 : World} {dv : Nat} {P : Nat → Nat → Int} {m : Nat} {Q : Nat → Ed} {vw : Value} {W : World} (h : Dr w0 dv P m Q vw W) : ∃ (ad : Option Addr) (cap : Nat), vw = .slice ad m cap := own_shape h.ro
theorem Dr.fz {w0 : World} {dv : Nat} {P : Nat → Nat → Int} {m : Nat} {Q : Nat → Ed} {vw : Value} {W : World} (h : Dr w0 dv P m Q vw W) (j : Nat) : W.frozen? ⟨dv, j, none⟩ = false := by
  obtain ⟨c, hc, hs⟩ := h.bl
  exact frozen_of hc
theorem Dr.there {w0 : World} {dv : Nat} {P : Nat → Nat → Int} {m : Nat} {Q : Nat → Ed} {vw : Value} {W : World} (h : Dr w0 dv P m Q vw W) {i : Nat} (hi : i < 258) : W.there dv (i * 64) 64 := by
  obtain ⟨c, hc, hs⟩ := h.bl
  exact there_blk hc _ _ (by omega)
/-- a new drive -/
theorem Dr.new {w : World} {ZD : Array Value} (hZ : ZD = (List.replicate 16512 (Value.int .u8 0) ++ [Value.slice none 0 0]).toArray) {W : World} (h : W = w.alloc (.cells ZD 124)) (Q : Nat → Ed) : Dr w w.heap.size (fun _ _ => 0) 0 Q (.slice none 0 0) W := by
  have b : W.heap[w.heap.size]? = some (.cells ZD 124 (0, 0)) := by rw [h]; exact alloc_new _ _ _
  obtain ⟨r, t⟩ := drv_new hZ b
  refine ⟨by rw [h]; exact kb_alloc _ _ _, Nat.le_refl _, by rw [h, World.size_alloc]; omega, ⟨ZD, b, ?_⟩, r, t, World.ownsRow_nil _ _ _ _⟩
  rw [hZ, List.size_toArray, List.length_append, List.length_replicate]
  rfl
/-- a page is laid -/
theorem Dr.page {w0 : World} {dv : Nat} {P : Nat → Nat → Int} {m : Nat} {Q : Nat → Ed} {vw : Value} {W : World} (h : Dr w0 dv P m Q vw W) {i : Nat} (hi : i < 258) (A : Nat → Int) (W' : World) (hW : W' = W.setCells dv (i * 64) (pgl A)) : Dr w0 dv (pup P i A) m Q vw W' := by
  obtain ⟨c, hc, hs⟩ := h.bl
  obtain ⟨g1, g2, g3, g4⟩ := setCells_frame dv (pgl A) (i * 64) W
  obtain ⟨c', hc', hs'⟩ := setCells_blk dv (pgl A) (i * 64) W c hc
  rw [← hW] at g1 g2 g3 g4 hc'
  have ge := h.ge
  have hth := h.there hi
  have out : ∀ o, o < i * 64 ∨ i * 64 + 64 ≤ o → W'.cell? ⟨dv, o, none⟩ = W.cell? ⟨dv, o, none⟩ := fun o ho => by
    rw [hW]
    exact World.cell?_setCells_out _ (pgl A) (i * 64) W _ (fun _ _ => by rw [pgl_len]; exact ho)
  refine ⟨⟨g1.trans h.kb.os, g2.trans h.kb.output, by rw [g3]; exact h.kb.size, fun q h1 h2 => (g4 q (by omega)).trans (h.kb.block q h1 h2)⟩, h.ge, by rw [g3]; exact h.lt, ⟨c', hc', hs'.trans hs⟩, pgs_range.2 (fun k hk j hj => ?_), (out 16512 (by omega)).trans h.wt, own_keep h.ro (fun g hg => g4 g (by have := (h.ro.lt g hg).1; omega))⟩
  unfold pup
  by_cases e : k = i
  · subst e
    rw [if_pos rfl, hW, World.cell?_setCells_in _ (pgl A) (k * 64) W (fun t ht => (hth t (by rw [pgl_len] at ht; exact ht)).1) j (by rw [pgl_len]; exact hj)]
    have := pgl_at A j hj
    rw [List.getElem?_eq_getElem (by rw [pgl_len]; exact hj)] at this
    exact this
  · rw [if_neg e, out _ (by omega)]
    exact pgs_range.1 h.rg k hk j hj
/-- no write waits any more -/
theorem Dr.empty {w0 : World} {dv : Nat} {P : Nat → Nat → Int} {m : Nat} {Q : Nat → Ed} {vw : Value} {W : World} (h : Dr w0 dv P m Q vw W) (Q' : Nat → Ed) (W' : World) (hW : W' = W.setCell ⟨dv, 16512, none⟩ (.slice none 0 0)) : Dr w0 dv P 0 Q' (.slice none 0 0) W' := by
  obtain ⟨c, hc, hs⟩ := h.bl
  have ge := h.ge
  subst hW
  refine ⟨h.kb.setCell _ (.inr (by exact ge)) _, ge, by rw [World.size_setCell]; exact h.lt, ⟨_, set_known _ hc, by simp [hs]⟩, pgs_range.2 (fun k hk j hj => ?_), ?_, World.ownsRow_nil _ _ _ _⟩
  · rw [set_ne _ _ _ _ _ (by omega)]
    exact pgs_range.1 h.rg k hk j hj
  · exact set_eq _ _ _ _ _ h.wt
/-- a write is taken: behind the append and the store -/
theorem Dr.push {w0 : World} {dv : Nat} {P : Nat → Nat → Int} {m : Nat} {Q : Nat → Ed} {vw : Value} {W W6 W8 : World} {ob : Obj} {g cap : Nat} {x : Ed} (h : Dr w0 dv P m Q vw W) (k6 : Kb 0 W W6)
    (h8 : W8.ownsRow (dv + 1) 140 65 (.slice (some ⟨g, 0, none⟩) (m + 1) cap) (m + 1) (pcl Q m ++ (.int .i64 x.b :: pgl x.A))) (g8 : (W6.alloc ob).grownBy W8 vw.ownBlock) :
    (W8.cell? ⟨dv, 16512, none⟩ = some vw ∧ ∀ j, W8.frozen? ⟨dv, j, none⟩ = false) ∧ Dr w0 dv P (m + 1) (fun j => if j = m then x else Q j) (.slice (some ⟨g, 0, none⟩) (m + 1) cap) (W8.setCell ⟨dv, 16512, none⟩ (.slice (some ⟨g, 0, none⟩) (m + 1) cap)) := by
  have h6 := h.keep k6
  have lo : ∀ q, q ≤ dv → some q ≠ vw.ownBlock := fun q hq e => by have := (h.ro.lt q e.symm).1; omega
  have lt6 := h6.lt
  have b8 : ∀ q, q ≤ dv → W8.heap[q]? = W6.heap[q]? := fun q hq => (g8.block q (by rw [World.size_alloc]; omega) (lo q hq)).trans ((kb_alloc 0 W6 ob).block q (Nat.zero_le _) (by omega))
  have z8 : W6.heap.size + 1 ≤ W8.heap.size := by have := g8.size; rw [World.size_alloc] at this; exact this
  obtain ⟨c, hc, hs⟩ := h6.bl
  have hc8 := (b8 dv (Nat.le_refl _)).trans hc
  have c8 : ∀ o, W8.cell? ⟨dv, o, none⟩ = W6.cell? ⟨dv, o, none⟩ := fun o => World.cell?_of_block (b8 dv (Nat.le_refl _))
  have ge := h.ge
  have k8 : Kb 0 w0 W8 := ⟨by rw [g8.os]; exact h6.kb.os, by rw [g8.output]; exact h6.kb.output, by have := h6.kb.size; omega, fun q h1 h2 => (b8 q (by omega)).trans (h6.kb.block q h1 h2)⟩
  have w8 : W8.cell? ⟨dv, 16512, none⟩ = some vw := (c8 _).trans h6.wt
  refine ⟨⟨w8, fun j => frozen_of hc8⟩, k8.setCell _ (.inr (by exact ge)) _, ge, by rw [World.size_setCell]; omega, ⟨_, set_known _ hc8, by simp [hs]⟩, pgs_range.2 (fun k hk j hj => ?_), set_eq _ _ _ _ _ w8, ?_⟩
  · rw [set_ne _ _ _ _ _ (by omega), c8]
    exact pgs_range.1 h6.rg k hk j hj
  · have e : pcl (fun j => if j = m then x else Q j) (m + 1) = pcl Q m ++ (.int .i64 x.b :: pgl x.A) := by
      rw [pcl, pcl_ext (Q' := Q) m (fun j hj => if_neg (by omega)), if_pos rfl]
    rw [e]
    exact own_keep h8 (fun q hq => Below.heap_setCell _ _ _ _ (show q ≠ dv by have := (h8.lt q hq).1; omega))
end Go.Proofs.Ytaggciimacanbaa.Fo
