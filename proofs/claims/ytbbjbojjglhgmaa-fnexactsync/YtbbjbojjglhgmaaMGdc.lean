import Derived.Test.YtbbjbojjglhgmaaMGdb
namespace Go.Proofs.Ytbbjbojjglhgmaa.Fo
open Go.ChangeShapes Go.WideShapes Go.ChangeAt Go.RowKit
set_option linter.unusedVariables false
set_option maxRecDepth 100000
def gcl (g : Gv) : List Value := [.int .i64 g.k, .int .i64 g.m, .string g.x, .int .i64 g.r]
/-- the cells of the first j values of a row, renamed -/
def vcl (o : List Int) (C : Nat → Gv) : Nat → List Value
  | 0 => []
  | j + 1 => vcl o C j ++ gcl (rnm o (C j))
theorem vcl_pre {o t : List Int} {C : Nat → Gv} : ∀ {j : Nat}, (∀ k, k < j → (C k).k = 4 → (C k).r ∈ o) → vcl (o ++ t) C j = vcl o C j
  | 0, _ => rfl
  | j + 1, h => by
    show vcl (o ++ t) C j ++ gcl (rnm (o ++ t) (C j)) = vcl o C j ++ gcl (rnm o (C j))
    rw [vcl_pre (fun k hk => h k (by omega)), rnm_pre (h j (by omega))]
/-- the cells of the first k nodes of the answer, whose rows are V -/
def ncl (F : Nat → Td) (o : List Int) (V : Nat → Value) : Nat → List Value
  | 0 => []
  | k + 1 => ncl F o V k ++ [.int .i64 (F (nth o k)).t, V k]
theorem nth_pre {o t : List Int} {k : Nat} (h : k < o.length) : nth (o ++ t) k = nth o k := by
  unfold nth
  rw [List.getD, List.getD, List.getElem?_append_left h]
theorem ncl_pre {F : Nat → Td} {o t : List Int} {V : Nat → Value} : ∀ {k : Nat}, k ≤ o.length → ncl F (o ++ t) V k = ncl F o V k
  | 0, _ => rfl
  | k + 1, h => by
    show ncl F (o ++ t) V k ++ [.int .i64 (F (nth (o ++ t) k)).t, V k] = ncl F o V k ++ [.int .i64 (F (nth o k)).t, V k]
    rw [ncl_pre (by omega), nth_pre (by omega)]
theorem ncl_upd {F : Nat → Td} {o : List Int} {V : Nat → Value} {v : Value} {i : Nat} : ∀ {k : Nat}, k ≤ i → ncl F o (fun q => if q = i then v else V q) k = ncl F o V k
  | 0, _ => rfl
  | k + 1, h => by
    show ncl F o _ k ++ [.int .i64 (F (nth o k)).t, if k = i then v else V k] = ncl F o V k ++ [.int .i64 (F (nth o k)).t, V k]
    rw [ncl_upd (by omega), if_neg (by omega)]
/-- owned rows of elements of other types lie in other blocks -/
theorem own_ne {W : World} {B B' : Nat} {t t' : TypeId} {s s' n n' : Nat} {v v' : Value} {l l' : List Value} (h : W.ownsRow B t s v n l) (h' : W.ownsRow B' t' s' v' n' l') (ht : t ≠ t') {g : Nat} (e : v.ownBlock = some g) : some g ≠ v'.ownBlock := by
  intro e'
  rcases h.2 with ⟨q, _⟩ | ⟨g1, c1, u1, q1, _, q3, _⟩
  · rw [q] at e; cases e
  rcases h'.2 with ⟨p, _⟩ | ⟨g2, c2, u2, p1, _, p3, _⟩
  · rw [p] at e'; cases e'
  rw [q1] at e
  rw [p1] at e'
  have a : g1 = g := Option.some.inj e
  have b : g = g2 := Option.some.inj e'
  subst a
  subst b
  rw [q3] at p3
  injection p3 with p3
  injection p3 with _ p3
  exact ht p3
theorem own_ty {W : World} {B : Nat} {t t' : TypeId} {s n u : Nat} {v : Value} {l : List Value} {c : Array Value} (h : W.ownsRow B t s v n l) (hu : W.heap[u]? = some (.cells c t' (0, 0))) (ht : t ≠ t') {g : Nat} (e : v.ownBlock = some g) : g ≠ u := by
  rintro rfl
  rcases h.2 with ⟨q, _⟩ | ⟨g1, c1, u1, q1, _, q3, _⟩
  · rw [q] at e; cases e
  rw [q1] at e
  have a : g1 = g := Option.some.inj e
  subst a
  rw [q3] at hu
  injection hu with hu
  injection hu with _ hu
  exact ht hu
/-- the model between two nodes: i are done, o is the order so far -/
structure CS (w : World) (n : Nat) (F : Nat → Td) (a : Gv) (pn : Option Addr) (cn : Nat) (o : List Int) (i : Nat) (vo vn : Value) (V : Nat → Value) (W : World) : Prop where
  kb : Kb 0 w W
  bx : W.heap[w.heap.size]? = some (.cells #[.int .i64 a.k, .int .i64 a.m, .string a.x, .int .i64 a.r, .slice pn n cn] 27 (0, 0))
  rs : W.heap[w.heap.size + 1]? = some (.cells #[.int .i64 0, .int .i64 0, .string ⟨#[]⟩, .int .i64 0, .slice none 0 0] 27 (0, 0))
  ou : W.heap[w.heap.size + 1 + 1]? = some (.cells #[.int .i64 (rnm o a).k, .int .i64 (rnm o a).m, .string (rnm o a).x, .int .i64 (rnm o a).r, vn] 27 (0, 0))
  wh : Wh (w.heap.size + 1 + 1 + 1) n o W
  oo : W.ownsRow (w.heap.size + 4) 3 1 vo o.length (ivs o)
  nn : W.ownsRow (w.heap.size + 4) 93 2 vn i (ncl F o V i)
  vs : ∀ k, k < i → W.ownsRow (w.heap.size + 4) 24 4 (V k) (F (nth o k)).c (vcl o (F (nth o k)).C (F (nth o k)).c)
  sz : w.heap.size + 4 ≤ W.heap.size
  il : i ≤ o.length
  nl : Nl n o
  cr : a.k = 4 → a.r ∈ o
  cv : ∀ k, k < i → ∀ j, j < (F (nth o k)).c → ((F (nth o k)).C j).k = 4 → ((F (nth o k)).C j).r ∈ o
/-- and a node being made, in block u, with j values, its row among the blocks from X on -/
structure CX (w : World) (n : Nat) (F : Nat → Td) (a : Gv) (pn : Option Addr) (cn : Nat) (o : List Int) (i : Nat) (vo vn : Value) (V : Nat → Value) (t : Int) (C : Nat → Gv) (u X j : Nat) (vx : Value) (W : World) : Prop where
  cs : CS w n F a pn cn o i vo vn V W
  xu : W.heap[u]? = some (.cells #[.int .i64 t, vx] 93 (0, 0))
  xr : W.ownsRow X 24 4 vx j (vcl o C j)
  hX : w.heap.size + 4 ≤ X
  hX2 : X ≤ W.heap.size
  hu : X ≤ u + 1 ∧ w.heap.size + 4 ≤ u
  hv : ∀ k, k < i → ∀ g, (V k).ownBlock = some g → g < X
  hn : ∀ g, vn.ownBlock = some g → g < u
  cc : ∀ k, k < j → (C k).k = 4 → (C k).r ∈ o
theorem CS.kb2 {w : World} {n : Nat} {F : Nat → Td} {a : Gv} {pn : Option Addr} {cn : Nat} {o : List Int} {i : Nat} {vo vn : Value} {V : Nat → Value} {W W' : World} (h : CS w n F a pn cn o i vo vn V W) (k : Kb 0 W W') : CS w n F a pn cn o i vo vn V W' := by
  have hz := h.sz
  have b : ∀ g, g < W.heap.size → W'.heap[g]? = W.heap[g]? := fun g hg => k.block g (Nat.zero_le _) hg
  exact ⟨h.kb.trans k, (b _ (by omega)).trans h.bx, (b _ (by omega)).trans h.rs, (b _ (by omega)).trans h.ou, h.wh.keep (b _ (by omega)), own_keep h.oo (fun g e => b g (h.oo.lt g e).2), own_keep h.nn (fun g e => b g (h.nn.lt g e).2), fun q hq => own_keep (h.vs q hq) (fun g e => b g ((h.vs q hq).lt g e).2), Nat.le_trans h.sz k.size, h.il, h.nl, h.cr, h.cv⟩
theorem CX.kb2 {w : World} {n : Nat} {F : Nat → Td} {a : Gv} {pn : Option Addr} {cn : Nat} {o : List Int} {i : Nat} {vo vn : Value} {V : Nat → Value} {t : Int} {C : Nat → Gv} {u X j : Nat} {vx : Value} {W W' : World} (h : CX w n F a pn cn o i vo vn V t C u X j vx W) (k : Kb 0 W W') : CX w n F a pn cn o i vo vn V t C u X j vx W' := by
  have hul : u < W.heap.size := (Array.getElem?_eq_some_iff.1 h.xu).1
  exact ⟨h.cs.kb2 k, (k.block u (Nat.zero_le _) hul).trans h.xu, own_keep h.xr (fun g e => k.block g (Nat.zero_le _) (h.xr.lt g e).2), h.hX, Nat.le_trans h.hX2 k.size, h.hu, h.hv, h.hn, h.cc⟩
/-- a value is renamed: the order grows -/
theorem CX.ren {w : World} {n : Nat} {F : Nat → Td} {a : Gv} {pn : Option Addr} {cn : Nat} {o : List Int} {i : Nat} {vo vo' vn : Value} {V : Nat → Value} {t : Int} {C : Nat → Gv} {u X j : Nat} {vx : Value} {W W' : World} {v : Gv} (h : CX w n F a pn cn o i vo vn V t C u X j vx W) (hw : Wh (w.heap.size + 1 + 1 + 1) n (ext o v) W') (ho : W'.ownsRow (w.heap.size + 4) 3 1 vo' (ext o v).length (ivs (ext o v))) (f : Fo2 (w.heap.size + 1 + 1 + 1) vo.ownBlock W W') (hv : v.k = 4 → 0 ≤ v.r ∧ v.r < (n : Int)) : CX w n F a pn cn (ext o v) i vo' vn V t C u X j vx W' := by
  obtain ⟨tl, et⟩ := ext_pre o v
  have hc := h.cs
  have hz := hc.sz
  have hul : u < W.heap.size := (Array.getElem?_eq_some_iff.1 h.xu).1
  have hog : ∀ g, vo.ownBlock = some g → w.heap.size + 4 ≤ g := fun g e => (hc.oo.lt g e).1
  have bl : ∀ g, g < w.heap.size + 3 → W'.heap[g]? = W.heap[g]? := fun g hg => f.block g (by omega) (by omega) (fun e => by have := hog g e.symm; omega)
  have bv : ∀ {B s m : Nat} {ty : TypeId} {v : Value} {l : List Value}, W.ownsRow B ty s v m l → w.heap.size + 4 ≤ B → ty ≠ 3 → W'.ownsRow B ty s v m l := fun {B s m ty v l} hr hB ht => own_keep hr (fun g e => f.block g (hr.lt g e).2 (by have := (hr.lt g e).1; omega) (own_ne hr hc.oo ht e))
  have hnl := nl_ext hc.nl hv
  have e1 : rnm (ext o v) a = rnm o a := by rw [et]; exact rnm_pre hc.cr
  have e2 : ∀ k, k < i → nth (ext o v) k = nth o k := fun k hk => by rw [et]; exact nth_pre (by have := hc.il; omega)
  have mem : ∀ {x : Int}, x ∈ o → x ∈ ext o v := fun {x} q => by rw [et]; exact List.mem_append.2 (.inl q)
  have hu2 : W'.heap[u]? = W.heap[u]? := f.block u hul (by have := h.hu.2; omega) (fun e => by
    have := own_ty hc.oo h.xu (by decide) e.symm
    exact this rfl)
  refine ⟨⟨⟨f.os.trans hc.kb.os, f.output.trans hc.kb.output, Nat.le_trans hc.kb.size f.size, fun g _ hg => (bl g (by omega)).trans (hc.kb.block g (Nat.zero_le _) hg)⟩, (bl _ (by omega)).trans hc.bx, (bl _ (by omega)).trans hc.rs, ?_, hw, ho, ?_, fun k hk => ?_, Nat.le_trans hz f.size, ?_, hnl, fun q => mem (hc.cr q), fun k hk => ?_⟩, hu2.trans h.xu, ?_, h.hX, Nat.le_trans h.hX2 f.size, h.hu, h.hv, h.hn, fun k hk q => mem (h.cc k hk q)⟩
  · rw [e1]; exact (bl _ (by omega)).trans hc.ou
  · rw [et, ncl_pre hc.il]; exact bv hc.nn (Nat.le_refl _) (by decide)
  · rw [e2 k hk, et, vcl_pre (hc.cv k hk)]; exact bv (hc.vs k hk) (Nat.le_refl _) (by decide)
  · rw [et, List.length_append]; have := hc.il; omega
  · rw [e2 k hk]; intro j hj q; exact mem (hc.cv k hk j hj q)
  · rw [et, vcl_pre h.cc]; exact bv h.xr h.hX (by decide)
end Go.Proofs.Ytbbjbojjglhgmaa.Fo
