import Derived.Test.YtbbjbojjglhgmaaMGdc
namespace Go.Proofs.Ytbbjbojjglhgmaa.Fo
open Go.ChangeShapes Go.WideShapes Go.ChangeAt Go.RowKit
set_option linter.unusedVariables false
set_option maxRecDepth 100000
theorem own_base {W : World} {B B' : Nat} {t : TypeId} {s n : Nat} {v : Value} {l : List Value} (h : W.ownsRow B t s v n l) (hb : B' ≤ B) : W.ownsRow B' t s v n l := by
  refine ⟨h.1, ?_⟩
  rcases h.2 with h1 | ⟨g, cap, cur, h1, h2, h3⟩
  · exact .inl h1
  · exact .inr ⟨g, cap, cur, h1, Nat.le_trans hb h2, h3⟩
theorem CS.begin {w : World} {n : Nat} {F : Nat → Td} {a : Gv} {pn : Option Addr} {cn : Nat} {o : List Int} {i : Nat} {vo vn : Value} {V : Nat → Value} {W W' : World} {u : Nat} {t : Int} {C : Nat → Gv} (h : CS w n F a pn cn o i vo vn V W) (k : Kb 0 W W') (hu : W'.heap[u]? = some (.cells #[.int .i64 t, .slice none 0 0] 93 (0, 0))) (hs : W'.heap.size = u + 1) (hl : W.heap.size ≤ u) : CX w n F a pn cn o i vo vn V t C u (u + 1) 0 (.slice none 0 0) W' := by
  have hz := h.sz
  exact ⟨h.kb2 k, hu, World.ownsRow_nil _ _ _ _, by omega, by omega, ⟨Nat.le_refl _, by omega⟩, fun q hq g e => by have := ((h.vs q hq).lt g e).2; omega, fun g e => by have := (h.nn.lt g e).2; omega, fun q hq => by omega⟩
/-- a renamed value comes to the node's row -/
theorem CX.push {w : World} {n : Nat} {F : Nat → Td} {a : Gv} {pn : Option Addr} {cn : Nat} {o : List Int} {i : Nat} {vo vn : Value} {V : Nat → Value} {t : Int} {C : Nat → Gv} {u X j : Nat} {vx vx' : Value} {W w3 : World} {ob : Obj} (h : CX w n F a pn cn o i vo vn V t C u X j vx W) (hr : w3.ownsRow X 24 4 vx' (j + 1) (vcl o C j ++ gcl (rnm o (C j)))) (hg : (W.alloc ob).grownBy w3 vx.ownBlock) (hcc : (C j).k = 4 → (C j).r ∈ o) : CX w n F a pn cn o i vo vn V t C u X (j + 1) vx' (w3.setCell ⟨u, 1, none⟩ vx') := by
  have hc := h.cs
  have hz := hc.sz
  have hX := h.hX
  have hX2 := h.hX2
  obtain ⟨hu1, hu2⟩ := h.hu
  have hul : u < W.heap.size := (Array.getElem?_eq_some_iff.1 h.xu).1
  have hs := hg.size
  rw [World.size_alloc] at hs
  have hxg : ∀ g, vx.ownBlock = some g → X ≤ g := fun g e => (h.xr.lt g e).1
  have b3 : ∀ g, g < W.heap.size → some g ≠ vx.ownBlock → w3.heap[g]? = W.heap[g]? := fun g hg' hne => (hg.block g (by rw [World.size_alloc]; omega) hne).trans ((kb_alloc 0 W ob).block g (Nat.zero_le _) hg')
  have bs : ∀ g, g ≠ u → (w3.setCell ⟨u, 1, none⟩ vx').heap[g]? = w3.heap[g]? := fun g hg' => Below.heap_setCell _ _ _ _ hg'
  have bl : ∀ g, g < w.heap.size + 4 → (w3.setCell ⟨u, 1, none⟩ vx').heap[g]? = W.heap[g]? := fun g hg' => (bs g (by omega)).trans (b3 g (by omega) (fun e => by have := hxg g e.symm; omega))
  have hzz : (w3.setCell ⟨u, 1, none⟩ vx').heap.size = w3.heap.size := World.size_setCell _ _ _
  have u3 : w3.heap[u]? = some (.cells #[.int .i64 t, vx] 93 (0, 0)) := (b3 u hul (fun e => own_ty h.xr h.xu (by decide) e.symm rfl)).trans h.xu
  refine ⟨⟨⟨hg.os.trans hc.kb.os, hg.output.trans hc.kb.output, by rw [hzz]; have := hc.kb.size; omega, fun g _ hg' => (bl g (by omega)).trans (hc.kb.block g (Nat.zero_le _) hg')⟩, (bl _ (by omega)).trans hc.bx, (bl _ (by omega)).trans hc.rs, (bl _ (by omega)).trans hc.ou, hc.wh.keep (bl _ (by omega)), ?_, ?_, fun k hk => ?_, by rw [hzz]; omega, hc.il, hc.nl, hc.cr, hc.cv⟩, ?_, ?_, hX, by rw [hzz]; omega, h.hu, h.hv, h.hn, fun k hk q => ?_⟩
  · exact own_keep hc.oo (fun g e => (bs g (own_ty hc.oo h.xu (by decide) e)).trans (b3 g (hc.oo.lt g e).2 (own_ne hc.oo h.xr (by decide) e)))
  · exact own_keep hc.nn (fun g e => (bs g (by have := h.hn g e; omega)).trans (b3 g (hc.nn.lt g e).2 (own_ne hc.nn h.xr (by decide) e)))
  · exact own_keep (hc.vs k hk) (fun g e => (bs g (own_ty (hc.vs k hk) h.xu (by decide) e)).trans (b3 g ((hc.vs k hk).lt g e).2 (fun e' => by have := hxg g e'.symm; have := h.hv k hk g e; omega)))
  · rw [set_known vx' u3]; rfl
  · exact own_keep hr (fun g e => bs g (own_ty hr u3 (by decide) e))
  · by_cases e : k = j
    · subst e; exact hcc q
    · exact h.cc k (by omega) q
/-- the node comes to the answer -/
theorem CX.done {w : World} {n : Nat} {F : Nat → Td} {a : Gv} {pn : Option Addr} {cn : Nat} {o : List Int} {i : Nat} {vo vn : Value} {V : Nat → Value} {u X : Nat} {vx vn' : Value} {W w3 : World} {ob : Obj} (h : CX w n F a pn cn o i vo vn V (F (nth o i)).t (F (nth o i)).C u X (F (nth o i)).c vx W) (hr : w3.ownsRow (w.heap.size + 4) 93 2 vn' (i + 1) (ncl F o V i ++ [.int .i64 (F (nth o i)).t, vx])) (hg : (W.alloc ob).grownBy w3 vn.ownBlock) (hi : i < o.length) : CS w n F a pn cn o (i + 1) vo vn' (fun q => if q = i then vx else V q) (w3.setCell ⟨w.heap.size + 1 + 1, 4, none⟩ vn') := by
  have hc := h.cs
  have hz := hc.sz
  have hs := hg.size
  rw [World.size_alloc] at hs
  have hng : ∀ g, vn.ownBlock = some g → w.heap.size + 4 ≤ g := fun g e => (hc.nn.lt g e).1
  have b3 : ∀ g, g < W.heap.size → some g ≠ vn.ownBlock → w3.heap[g]? = W.heap[g]? := fun g hg' hne => (hg.block g (by rw [World.size_alloc]; omega) hne).trans ((kb_alloc 0 W ob).block g (Nat.zero_le _) hg')
  have bs : ∀ g, g ≠ w.heap.size + 1 + 1 → (w3.setCell ⟨w.heap.size + 1 + 1, 4, none⟩ vn').heap[g]? = w3.heap[g]? := fun g hg' => Below.heap_setCell _ _ _ _ hg'
  have bl : ∀ g, g < w.heap.size + 4 → g ≠ w.heap.size + 1 + 1 → (w3.setCell ⟨w.heap.size + 1 + 1, 4, none⟩ vn').heap[g]? = W.heap[g]? := fun g hg' hne => (bs g hne).trans (b3 g (by omega) (fun e => by have := hng g e.symm; omega))
  have hzz : (w3.setCell ⟨w.heap.size + 1 + 1, 4, none⟩ vn').heap.size = w3.heap.size := World.size_setCell _ _ _
  have o3 := (b3 (w.heap.size + 1 + 1) (by omega) (fun e => by have := hng _ e.symm; omega)).trans hc.ou
  have bv : ∀ {B s m : Nat} {ty : TypeId} {v : Value} {l : List Value}, W.ownsRow B ty s v m l → w.heap.size + 4 ≤ B → ty ≠ 93 → (w3.setCell ⟨w.heap.size + 1 + 1, 4, none⟩ vn').ownsRow B ty s v m l := fun {B s m ty v l} hr hB ht => own_keep hr (fun g e => (bs g (by have := (hr.lt g e).1; omega)).trans (b3 g (hr.lt g e).2 (own_ne hr hc.nn ht e)))
  refine ⟨⟨hg.os.trans hc.kb.os, hg.output.trans hc.kb.output, by rw [hzz]; have := hc.kb.size; omega, fun g _ hg' => (bl g (by omega) (by omega)).trans (hc.kb.block g (Nat.zero_le _) hg')⟩, (bl _ (by omega) (by omega)).trans hc.bx, (bl _ (by omega) (by omega)).trans hc.rs, ?_, hc.wh.keep (bl _ (by omega) (by omega)), bv hc.oo (Nat.le_refl _) (by decide), ?_, fun k hk => ?_, by rw [hzz]; omega, hi, hc.nl, hc.cr, fun k hk => ?_⟩
  · rw [set_known vn' o3]; rfl
  · have e : ncl F o (fun q => if q = i then vx else V q) (i + 1) = ncl F o V i ++ [.int .i64 (F (nth o i)).t, vx] := by
      show ncl F o _ i ++ [.int .i64 (F (nth o i)).t, if i = i then vx else V i] = _
      rw [ncl_upd (Nat.le_refl _), if_pos rfl]
    rw [e]
    exact own_keep hr (fun g e => bs g (by have := (hr.lt g e).1; omega))
  · by_cases e : k = i
    · subst e
      rw [if_pos rfl]
      exact own_base (bv h.xr h.hX (by decide)) h.hX
    · rw [if_neg e]
      exact bv (hc.vs k (by omega)) (Nat.le_refl _) (by decide)
  · by_cases e : k = i
    · subst e; exact h.cc
    · exact hc.cv k (by omega)
end Go.Proofs.Ytbbjbojjglhgmaa.Fo
