import Derived.Test.YtdkmnggdelchkaaMHad
namespace Go.Proofs.Ytdkmnggdelchkaa.Fo
open Go.ChangeShapes Go.WideShapes Go.ChangeAt Go.RowKit
set_option linter.unusedVariables false
set_option maxRecDepth 100000
/-- the form being made, in block fb: i nodes are done, o is the order so far -/
structure FS (w : World) (n : Nat) (F : Nat → Td) (a : Gv) (pn : Option Addr) (A : Addr) (cn fb : Nat) (o : List Int) (i : Nat) (vo vn : Value) (V : Nat → Value) (W : World) : Prop where
  kb : Kb 0 w W
  rs : W.heap[w.heap.size + 1]? = some (.cells #[.int .i64 0, .int .i64 0, .string ⟨#[]⟩, .int .i64 0, .slice none 0 0] 53 (0, 0))
  ns : NS (w.heap.size + 4) pn A n cn (w.heap.size + 1 + 1 + 1) (w.heap.size + 1 + 1) o vo W
  ou : W.heap[fb]? = some (.cells #[.int .i64 (rnm o a).k, .int .i64 (rnm o a).m, .string (rnm o a).x, .int .i64 (rnm o a).r, vn] 53 (0, 0))
  nn : W.ownsRow (fb + 1) 65 2 vn i (ncl F o V i)
  vs : ∀ k, k < i → W.ownsRow (fb + 1) 50 4 (V k) (F (nth o k)).c (vcl o (F (nth o k)).C (F (nth o k)).c)
  dv : ∀ k k', k < k' → k' < i → ∀ g g', (V k).ownBlock = some g → (V k').ownBlock = some g' → g ≠ g'
  sz : fb + 1 ≤ W.heap.size
  hf : w.heap.size + 4 ≤ fb
  il : i ≤ o.length
  cr : a.k = 4 → a.r ∈ o
  cv : ∀ k, k < i → ∀ j, j < (F (nth o k)).c → ((F (nth o k)).C j).k = 4 → ((F (nth o k)).C j).r ∈ o
theorem FS.kb2 {w : World} {n : Nat} {F : Nat → Td} {a : Gv} {pn : Option Addr} {A : Addr} {cn fb : Nat} {o : List Int} {i : Nat} {vo vn : Value} {V : Nat → Value} {W W' : World} (h : FS w n F a pn A cn fb o i vo vn V W) (k : Kb 0 W W') : FS w n F a pn A cn fb o i vo vn V W' := by
  have hz := h.sz
  have hz2 := h.hf
  have b : ∀ g, g < W.heap.size → W'.heap[g]? = W.heap[g]? := fun g hg => k.block g (Nat.zero_le _) hg
  exact ⟨h.kb.trans k, (b _ (by omega)).trans h.rs, h.ns.kb k, (b _ (by omega)).trans h.ou, own_keep h.nn (fun g e => b g (h.nn.lt g e).2), fun q hq => own_keep (h.vs q hq) (fun g e => b g ((h.vs q hq).lt g e).2), h.dv, Nat.le_trans h.sz k.size, h.hf, h.il, h.cr, h.cv⟩
/-- a node more -/
theorem FS.step {w : World} {n : Nat} {F : Nat → Td} {a : Gv} {pn : Option Addr} {A : Addr} {cn fb : Nat} {o : List Int} {i : Nat} {vo vo' vn vx : Value} {V : Nat → Value} {W w6 : World} (h : FS w n F a pn A cn fb o i vo vn V W) (hi : i < o.length) (hns : NS (w.heap.size + 4) pn A n cn (w.heap.size + 1 + 1 + 1) (w.heap.size + 1 + 1) (exts o (F (nth o i)).C (F (nth o i)).c) vo' w6) (hx : w6.ownsRow W.heap.size 50 4 vx (F (nth o i)).c (vcl (exts o (F (nth o i)).C (F (nth o i)).c) (F (nth o i)).C (F (nth o i)).c)) (hf : Fo4 (w.heap.size + 4) (w.heap.size + 1 + 1 + 1) (w.heap.size + 1 + 1) W w6) :
    (w6.cell? ⟨fb, 4, none⟩ = some vn ∧ (∀ ob, (w6.alloc ob).cell? ⟨fb, 4, none⟩ = some vn) ∧ fb + 1 ≤ w6.heap.size ∧ w6.ownsRow (fb + 1) 65 2 vn i (ncl F o V i)) ∧ ∀ (ob : Obj) (w8 : World) (vn' : Value), w8.ownsRow (fb + 1) 65 2 vn' (i + 1) (ncl F o V i ++ [.int .i64 (F (nth o i)).t, vx]) → (w6.alloc ob).grownBy w8 vn.ownBlock → (w8.cell? ⟨fb, 4, none⟩ = some vn ∧ ∀ j, w8.frozen? ⟨fb, j, none⟩ = false) ∧ FS w n F a pn A cn fb (exts o (F (nth o i)).C (F (nth o i)).c) (i + 1) vo' vn' (fun q => if q = i then vx else V q) (w8.setCell ⟨fb, 4, none⟩ vn') := by
  obtain ⟨o', ho'⟩ : ∃ o', o' = exts o (F (nth o i)).C (F (nth o i)).c := ⟨_, rfl⟩
  obtain ⟨tl, et⟩ := exts_pre o (F (nth o i)).C (F (nth o i)).c
  have hmem : ∀ j, j < (F (nth o i)).c → ((F (nth o i)).C j).k = 4 → ((F (nth o i)).C j).r ∈ o' := fun j hj q => by rw [ho']; exact exts_mem hj q
  rw [← ho'] at et hns hx ⊢
  have hz := h.sz
  have hz2 := h.hf
  have hzf := hf.size
  have u6 := (hf.cells h.ou (by decide) (by omega) (by omega)).trans h.ou
  have r6 := (hf.cells h.rs (by decide) (by omega) (by omega)).trans h.rs
  have n6 : w6.ownsRow (fb + 1) 65 2 vn i (ncl F o V i) := hf.own h.nn (by decide) (by omega) (by omega)
  have v6 : ∀ k, k < i → w6.ownsRow (fb + 1) 50 4 (V k) (F (nth o k)).c (vcl o (F (nth o k)).C (F (nth o k)).c) := fun k hk => hf.own (h.vs k hk) (by decide) (by omega) (by omega)
  have k6 : Kb 0 w w6 := hf.kb h.kb (by omega) (by omega) (by omega)
  refine ⟨⟨cell_of u6 rfl, fun ob => (kb_alloc 0 w6 ob).cell (cell_of u6 rfl), by omega, n6⟩, fun ob w8 vn' hr hg => ?_⟩
  have hs := hg.size
  rw [World.size_alloc] at hs
  have b8 : ∀ g, g < w6.heap.size → some g ≠ vn.ownBlock → w8.heap[g]? = w6.heap[g]? := fun g hg' hne => (hg.block g (by rw [World.size_alloc]; omega) hne).trans ((kb_alloc 0 w6 ob).block g (Nat.zero_le _) hg')
  have hnl : ∀ g, vn.ownBlock = some g → fb + 1 ≤ g := fun g e => (n6.lt g e).1
  have u8 := (b8 fb (by omega) (fun e => by have := hnl _ e.symm; omega)).trans u6
  have bs : ∀ g, g ≠ fb → (w8.setCell ⟨fb, 4, none⟩ vn').heap[g]? = w8.heap[g]? := fun g hg' => Below.heap_setCell _ _ _ _ hg'
  have hzz : (w8.setCell ⟨fb, 4, none⟩ vn').heap.size = w8.heap.size := World.size_setCell _ _ _
  have bl : ∀ g, g < w.heap.size + 4 → (w8.setCell ⟨fb, 4, none⟩ vn').heap[g]? = w6.heap[g]? := fun g hg' => (bs g (by omega)).trans (b8 g (by omega) (fun e => by have := hnl g e.symm; omega))
  have bv : ∀ {B s m : Nat} {ty : TypeId} {v : Value} {l : List Value}, w6.ownsRow B ty s v m l → fb + 1 ≤ B → ty ≠ 65 → (w8.setCell ⟨fb, 4, none⟩ vn').ownsRow B ty s v m l := fun {B s m ty v l} hr' hB ht => own_keep hr' (fun g e => (bs g (by have := (hr'.lt g e).1; omega)).trans (b8 g (hr'.lt g e).2 (own_ne hr' n6 ht e)))
  have e1 : rnm o' a = rnm o a := by rw [et]; exact rnm_pre h.cr
  have e2 : ∀ k, k ≤ i → nth o' k = nth o k := fun k hk => by rw [et]; exact nth_pre (by omega)
  have mem : ∀ {x : Int}, x ∈ o → x ∈ o' := fun {x} q => by rw [et]; exact List.mem_append.2 (.inl q)
  refine ⟨⟨cell_of u8 rfl, fun j => frozen_of u8⟩, ⟨⟨hg.os.trans k6.os, hg.output.trans k6.output, by rw [hzz]; have := k6.size; omega, fun g _ hg' => (bl g (by omega)).trans (k6.block g (Nat.zero_le _) hg')⟩, (bl _ (by omega)).trans r6, ?_, ?_, ?_, fun k hk => ?_, fun k k' hkk hk' g g' hg1 hg2 => ?_, by rw [hzz]; omega, hz2, ?_, fun q => mem (h.cr q), fun k hk => ?_⟩⟩
  · refine NS.keep hns (fun g hg' e => ?_)
    rcases e with rfl | rfl | e
    · exact bl _ (by omega)
    · exact bl _ (by omega)
    · exact (bs g (own_ty hns.oo u6 (by decide) e)).trans (b8 g hg' (own_ne hns.oo n6 (by decide) e))
  · rw [set_known vn' u8, e1]; rfl
  · have e : ncl F o' (fun q => if q = i then vx else V q) (i + 1) = ncl F o V i ++ [.int .i64 (F (nth o i)).t, vx] := by
      show ncl F o' _ i ++ [.int .i64 (F (nth o' i)).t, if i = i then vx else V i] = _
      rw [ncl_upd (Nat.le_refl _), if_pos rfl, e2 i (Nat.le_refl _), et, ncl_pre h.il]
    rw [e]
    exact own_keep hr (fun g e => bs g (by have := (hr.lt g e).1; omega))
  · rw [e2 k (by omega)]
    by_cases e : k = i
    · subst e
      rw [if_pos rfl]
      exact own_base (bv hx (by omega) (by decide)) (by omega)
    · rw [if_neg e, et, vcl_pre (h.cv k (by omega))]
      exact bv (v6 k (by omega)) (Nat.le_refl _) (by decide)
  · by_cases e' : k' = i
    · subst e'
      rw [if_pos rfl] at hg2
      rw [if_neg (by omega)] at hg1
      have q1 := (hx.lt g' hg2).1
      have q2 := ((h.vs k (by omega)).lt g hg1).2
      omega
    · rw [if_neg e'] at hg2
      rw [if_neg (by omega)] at hg1
      exact h.dv k k' hkk (by omega) g g' hg1 hg2
  · rw [et, List.length_append]; omega
  · rw [e2 k (by omega)]
    by_cases e : k = i
    · subst e; exact hmem
    · intro j hj q; exact mem (h.cv k (by omega) j hj q)
/-- what is left in the end: rows that are their owner's alone -/
structure FE (w : World) (n : Nat) (F : Nat → Td) (o : List Int) (vn : Value) (V : Nat → Value) (W : World) : Prop where
  kb : Kb 0 w W
  nn : W.ownsRow w.heap.size 65 2 vn o.length (ncl F o V o.length)
  vs : ∀ k, k < o.length → W.ownsRow w.heap.size 50 4 (V k) (F (nth o k)).c (vcl o (F (nth o k)).C (F (nth o k)).c)
  dv : ∀ k k', k < k' → k' < o.length → ∀ g g', (V k).ownBlock = some g → (V k').ownBlock = some g' → g ≠ g'
theorem FE.row {w : World} {n : Nat} {F : Nat → Td} {o : List Int} {vn : Value} {V : Nat → Value} {W : World} (h : FE w n F o vn V W) : RowT w.heap.size W vn o.length (cnF F o) := by
  have hn' := h.nn
  obtain ⟨ad, cap, rfl⟩ := own_shape hn'
  refine ⟨ad, cap, rfl, fun hn => ?_⟩
  obtain ⟨g, cap', e, hB, hc, hcell⟩ := own_cells hn' hn
  injection e with e1 e2 e3
  subst e1
  subst e3
  refine ⟨_, rfl, hc, hB, fun k hk => ?_⟩
  rw [addr0]
  exact ⟨V k, CelT.of (fun t ht => (hcell _ (by omega)).trans (ncl_at F o V ht hk)), own_vals (h.vs k hk)⟩
theorem FS.fin {w : World} {n : Nat} {F : Nat → Td} {a : Gv} {pn : Option Addr} {A : Addr} {cn fb : Nat} {o : List Int} {vo vn : Value} {V : Nat → Value} {W W' : World} (h : FS w n F a pn A cn fb o o.length vo vn V W) (hb : ∀ g, g ≠ w.heap.size + 1 → W'.heap[g]? = W.heap[g]?) (hs : W'.heap.size = W.heap.size) (hos : W'.os = W.os) (hout : W'.output = W.output) : FE w n F o vn V W' := by
  have hz2 := h.hf
  exact ⟨⟨hos.trans h.kb.os, hout.trans h.kb.output, by rw [hs]; exact h.kb.size, fun g _ hg => (hb g (by omega)).trans (h.kb.block g (Nat.zero_le _) hg)⟩, own_base (own_keep h.nn (fun g e => hb g (by have := (h.nn.lt g e).1; omega))) (by omega), fun k hk => own_base (own_keep (h.vs k hk) (fun g e => hb g (by have := ((h.vs k hk).lt g e).1; omega))) (by omega), h.dv⟩
end Go.Proofs.Ytdkmnggdelchkaa.Fo
