import Derived.Deep.RegionHeld3
import Derived.Deep.AppendLies
import Derived.Test.YtamcnmnaadpfoaaMHab
import Derived.Test.YtamcnmnaadpfoaaMGde
namespace Go.Proofs.Ytamcnmnaadpfoaa.Fo
open Go.ChangeShapes Go.WideShapes Go.ChangeAt Go.RowKit
set_option linter.unusedVariables false
set_option maxRecDepth 100000
theorem step_append_own {P : Program} {ops : Array Oper} {o : Oper} {a : Act} {w : World} {K : Act → World → Prop} {Q : Exit → Act → World → Prop} {E : Prop}
    (hg : o.guard = none) (s x : Operand) (t : TypeId) (ho : o.op = .call { callee := .builtin .append, args := #[s, x], argTypes := #[t, t] })
    (base : Nat) (e : TypeId) (i : TypeInfo) (z : Value) (size bytes : Nat) (ht : P.underlying t = some (.slice e)) (hi : P.info? e = some i) (hz : i.zero = some z)
    (hsize : i.size = size) (hby : i.bytes = bytes) (hzs : z.cells.size = size) (hsz : 0 < size)
    (v : Value) (n : Nat) (xs : List Value) (hs : a.eval s = v) (hown : w.ownsRow base e size v n xs)
    (ad : Addr) (m c : Nat) (news : List Value) (hx : a.eval x = .slice (some ad) m c) (hl : news.length = m * size) (hnews : ∀ j u, news[j]? = some u → w.cell? (ad.add j) = some u) (h1 : ∀ u ∈ news, u.oneCell' = true)
    (h63 : n + m ≤ maxLen) (hbytes : (n + m) * bytes ≤ 140737488355328) (hbase : base ≤ w.heap.size)
    (h : ∀ v' w', w'.ownsRow base e size v' (n + m) (xs ++ news) → w.grownBy w' v.ownBlock → (v' = .slice none 0 0 ↔ v = .slice none 0 0 ∧ m = 0) → K (a.put o.dst v') w') :
    if Region.wanted o (yielded ops a.tmps) = true then Oper.wp P o a w K Q else E := by
  have hw : Region.wanted o (yielded ops a.tmps) = true := by simp [Region.wanted, hg]
  rw [if_pos hw]
  exact wp_append_own w s x t ho base e i z size bytes ht hi hz hsize hby hzs hsz v n xs hs hown ad m c news hx hl hnews h1 h63 hbytes hbase h
theorem own_heap {W W' : World} {base : Nat} {e : TypeId} {size : Nat} {v : Value} {n : Nat} {xs : List Value} (h : W.ownsRow base e size v n xs) (he : W'.heap = W.heap) : W'.ownsRow base e size v n xs := by
  unfold World.ownsRow at h ⊢
  rw [he]
  exact h
theorem cells_heap {W W' : World} {a : Addr} {l : List Value} (h : ∀ j u, l[j]? = some u → W.cell? (a.add j) = some u) (he : W'.heap = W.heap) : ∀ j u, l[j]? = some u → W'.cell? (a.add j) = some u := fun j u hu => by
  rw [← h j u hu]
  exact World.cell?_of_block (by rw [he])
/-- of the old blocks only the walk's and rows of pointers from B on are written -/
structure Fo4 (B nb mb : Nat) (W w' : World) : Prop where
  os : w'.os = W.os
  output : w'.output = W.output
  size : W.heap.size ≤ w'.heap.size
  block : ∀ k, k < W.heap.size → k ≠ nb → k ≠ mb → (k < B ∨ ∀ c, W.heap[k]? ≠ some (.cells c 140 (0, 0))) → w'.heap[k]? = W.heap[k]?
theorem Fo4.refl (B nb mb : Nat) (W : World) : Fo4 B nb mb W W := ⟨rfl, rfl, Nat.le_refl _, fun _ _ _ _ _ => rfl⟩
theorem Fo4.trans {B nb mb : Nat} {a b c : World} (h : Fo4 B nb mb a b) (k : Fo4 B nb mb b c) : Fo4 B nb mb a c :=
  ⟨k.os.trans h.os, k.output.trans h.output, Nat.le_trans h.size k.size, fun i hi h1 h2 h3 => by
    have e := h.block i hi h1 h2 h3
    exact (k.block i (Nat.lt_of_lt_of_le hi h.size) h1 h2 (by rw [e]; exact h3)).trans e⟩
theorem Fo4.of_kb {B nb mb : Nat} {W w' : World} (k : Kb 0 W w') : Fo4 B nb mb W w' := ⟨k.os, k.output, k.size, fun i hi _ _ _ => k.block i (Nat.zero_le _) hi⟩
theorem own_pt {W : World} {B : Nat} {v : Value} {n : Nat} {l : List Value} (h : W.ownsRow B 140 1 v n l) {g : Nat} (e : v.ownBlock = some g) : ∃ c, W.heap[g]? = some (.cells c 140 (0, 0)) := by
  rcases h.2 with ⟨q, _⟩ | ⟨g1, c1, u1, q1, _, q3, _⟩
  · rw [q] at e; cases e
  · rw [q1] at e
    have a : g1 = g := Option.some.inj e
    subst a
    exact ⟨u1, q3⟩
theorem Fo4.of3 {B : Nat} {pn : Option Addr} {A : Addr} {n cn nb mb : Nat} {o : List Int} {vo : Value} {W w' : World} (h : NS B pn A n cn nb mb o vo W) (f : Fo3 nb mb vo.ownBlock W w') : Fo4 B nb mb W w' :=
  ⟨f.os, f.output, f.size, fun k hk h1 h2 h3 => f.block k hk h1 h2 (fun e => by
    rcases h3 with q | q
    · have := (h.lt.2.2.2 k e.symm).2.2.1; omega
    · obtain ⟨c, hc⟩ := own_pt h.oo e.symm
      exact q c hc)⟩
theorem Fo4.kb {B nb mb : Nat} {w0 W w' : World} (f : Fo4 B nb mb W w') (k : Kb 0 w0 W) (h1 : w0.heap.size ≤ nb) (h2 : w0.heap.size ≤ mb) (h3 : w0.heap.size ≤ B) : Kb 0 w0 w' :=
  ⟨f.os.trans k.os, f.output.trans k.output, Nat.le_trans k.size f.size, fun g _ hg => (f.block g (Nat.lt_of_lt_of_le hg k.size) (by omega) (by omega) (.inl (by omega))).trans (k.block g (Nat.zero_le _) hg)⟩
theorem Fo4.cells {B nb mb : Nat} {W w' : World} (f : Fo4 B nb mb W w') {g : Nat} {c : Array Value} {t : TypeId} (hg : W.heap[g]? = some (.cells c t (0, 0))) (ht : t ≠ 140) (h1 : g ≠ nb) (h2 : g ≠ mb) : w'.heap[g]? = W.heap[g]? :=
  f.block g (Array.getElem?_eq_some_iff.1 hg).1 h1 h2 (.inr (fun c' e => by
    rw [hg] at e
    injection e with e
    injection e with _ e
    exact ht e))
theorem Fo4.own {B nb mb : Nat} {W w' : World} (f : Fo4 B nb mb W w') {B' s n : Nat} {t : TypeId} {v : Value} {l : List Value} (h : W.ownsRow B' t s v n l) (ht : t ≠ 140) (h1 : nb < B') (h2 : mb < B') : w'.ownsRow B' t s v n l :=
  own_keep h (fun g e => by
    have hb := (h.lt g e).1
    rcases h.2 with ⟨q, _⟩ | ⟨g1, c1, u1, q1, _, q3, _⟩
    · rw [q] at e; cases e
    · rw [q1] at e
      have a : g1 = g := Option.some.inj e
      subst a
      exact f.cells q3 ht (by omega) (by omega))
/-- a node being made anew: j of its values are done; u is the answer's block -/
structure TS (B : Nat) (pn : Option Addr) (A : Addr) (n cn nb mb : Nat) (o : List Int) (t : Int) (C : Nat → Gv) (W : World) (u j : Nat) (vo vx : Value) (wr : World) : Prop where
  ns : NS B pn A n cn nb mb (exts o C j) vo wr
  fo : Fo4 B nb mb W wr
  rs : wr.heap[u]? = some (.cells #[.int .i64 0, .slice none 0 0] 50 (0, 0))
  xu : wr.heap[u + 1]? = some (.cells #[.int .i64 t, vx] 50 (0, 0))
  xr : wr.ownsRow (u + 2) 41 4 vx j (vcl (exts o C j) C j)
  sz : u + 2 ≤ wr.heap.size
theorem own_vt {W : World} {B : Nat} {v : Value} {n s : Nat} {t : TypeId} {l : List Value} (h : W.ownsRow B t s v n l) {g : Nat} (e : v.ownBlock = some g) : ∃ c, W.heap[g]? = some (.cells c t (0, 0)) := by
  rcases h.2 with ⟨q, _⟩ | ⟨g1, c1, u1, q1, _, q3, _⟩
  · rw [q] at e; cases e
  · rw [q1] at e
    have a : g1 = g := Option.some.inj e
    subst a
    exact ⟨u1, q3⟩
/-- a value more -/
theorem TS.push {B : Nat} {pn : Option Addr} {A : Addr} {n cn nb mb : Nat} {o : List Int} {t : Int} {C : Nat → Gv} {W : World} {u j : Nat} {vo vo' vx vx' : Value} {wr W5 w6 w8 : World} {ob : Obj} (h : TS B pn A n cn nb mb o t C W u j vo vx wr) (k5 : Kb 0 wr W5) (hnb : nb < u) (hmb : mb < u) (HWU : W.heap.size ≤ u) (hns : NS B pn A n cn nb mb (ext (exts o C j) (C j)) vo' w6) (hf : Fo4 B nb mb W5 w6) (hr : w8.ownsRow (u + 2) 41 4 vx' (j + 1) (vcl (exts o C j) C j ++ gcl (rnm (ext (exts o C j) (C j)) (C j)))) (hg : (w6.alloc ob).grownBy w8 vx.ownBlock) : (w8.cell? ⟨u + 1, 1, none⟩ = some vx ∧ ∀ i, w8.frozen? ⟨u + 1, i, none⟩ = false) ∧ TS B pn A n cn nb mb o t C W u (j + 1) vo' vx' (w8.setCell ⟨u + 1, 1, none⟩ vx') := by
  have f6 : Fo4 B nb mb wr w6 := (Fo4.of_kb k5).trans hf
  have hs := hg.size
  rw [World.size_alloc] at hs
  have hsz := h.sz
  have hz6 := f6.size
  have x6 : w6.ownsRow (u + 2) 41 4 vx j (vcl (exts o C j) C j) := f6.own h.xr (by decide) (by omega) (by omega)
  have u6 := (f6.cells h.xu (by decide) (by omega) (by omega)).trans h.xu
  have r6 := (f6.cells h.rs (by decide) (by omega) (by omega)).trans h.rs
  have b8 : ∀ g, g < w6.heap.size → some g ≠ vx.ownBlock → w8.heap[g]? = w6.heap[g]? := fun g hg' hne => (hg.block g (by rw [World.size_alloc]; omega) hne).trans ((kb_alloc 0 w6 ob).block g (Nat.zero_le _) hg')
  have u8 := (b8 (u + 1) (by omega) (fun e => own_ty x6 u6 (by decide) e.symm rfl)).trans u6
  have bs : ∀ g, g ≠ u + 1 → (w8.setCell ⟨u + 1, 1, none⟩ vx').heap[g]? = w8.heap[g]? := fun g hg' => Below.heap_setCell _ _ _ _ hg'
  have hzz : (w8.setCell ⟨u + 1, 1, none⟩ vx').heap.size = w8.heap.size := World.size_setCell _ _ _
  obtain ⟨l1, l2, l3, l4⟩ := hns.lt
  obtain ⟨tl, et⟩ := ext_pre (exts o C j) (C j)
  refine ⟨⟨cell_of u8 rfl, fun i => frozen_of u8⟩, ⟨?_, ?_, ?_, ?_, ?_, by omega⟩⟩
  · refine NS.keep hns (fun g hg' e => ?_)
    have hne : g ≠ u + 1 ∧ some g ≠ vx.ownBlock := by
      rcases e with rfl | rfl | e
      · exact ⟨by omega, fun e => by have := (x6.lt _ e.symm).1; omega⟩
      · exact ⟨by omega, fun e => by have := (x6.lt _ e.symm).1; omega⟩
      · exact ⟨own_ty hns.oo u6 (by decide) e, own_ne hns.oo x6 (by decide) e⟩
    exact (bs g hne.1).trans (b8 g hg' hne.2)
  · have f := h.fo.trans f6
    have hwz := h.fo.size
    refine ⟨hg.os.trans f.os, hg.output.trans f.output, by omega, fun k hk h1 h2 h3 => ?_⟩
    have hk6 := f.block k hk h1 h2 h3
    by_cases eu : k = u + 1
    · exact absurd eu (by have := HWU; omega)
    · rw [bs k eu, b8 k (by omega) (fun e => by have := (x6.lt k e.symm).1; have := HWU; omega)]
      exact hk6
  · rw [bs u (by omega), b8 u (by omega) (fun e => by have := (x6.lt u e.symm).1; omega)]
    exact r6
  · rw [set_known vx' u8]; rfl
  · show (w8.setCell ⟨u + 1, 1, none⟩ vx').ownsRow (u + 2) 41 4 vx' (j + 1) (vcl (ext (exts o C j) (C j)) C j ++ gcl (rnm (ext (exts o C j) (C j)) (C j)))
    rw [et, vcl_pre (fun k hk q => exts_mem hk q), ← et]
    exact own_keep hr (fun g e => bs g (own_ty hr u8 (by decide) e))
end Go.Proofs.Ytamcnmnaadpfoaa.Fo
