import Derived.Test.YtamcnmnaadpfoaaMUaw
import Derived.Test.YtamcnmnaadpfoaaMPai
import Derived.Test.YtamcnmnaadpfoaaMUag
namespace Go.Proofs.Ytamcnmnaadpfoaa.Fo
open Go.ChangeShapes Go.WideShapes Go.ChangeAt Go.RowKit
set_option linter.unusedVariables false
set_option maxRecDepth 100000
/-- no tag of a graph is greater than what the model reads -/
def sm5 (g : Gr) : Prop := ∀ q, q ∈ g.2 → q.1 ≤ 5000
/-- the model's answer, by the bytes alone -/
def UnM (M : List UInt8) (ok : Bool) (g : Gr) : Prop :=
  (ok = true → M ≠ [] ∧ Rg g.2.length (TF g.2) g.1 ∧ pck g.2.length (TF g.2) g.1 = toI M ∧ ∀ g', Rd M g' → sm5 g' → g = g') ∧ (ok = false → g = gr0 ∧ ∀ g', Rd M g' → sm5 g' → M ≠ [] → pck g'.2.length (TF g'.2) g'.1 = toI M → False)
theorem gok_sm5 {g : Gr} (h : Gok g.2.length (TF g.2) g.1) : sm5 g := fun q hq => by
  obtain ⟨i, hi, e⟩ := List.getElem_of_mem hq
  have h1 := (h.2.2 i hi).1.2.1
  have h2 : TF g.2 i = td9 q := by unfold TF; simp [List.getD, List.getElem?_eq_getElem hi, e]
  rw [h2] at h1
  have h3 : q.1 ≤ 1000 := h1
  omega
theorem can_small {n : Nat} {F : Nat → Td} {a : Gv} (h : Gok n F a) : ∀ q, q ∈ lF (cO n F a).length (cF n F a) → q.1 ≤ 5000 := fun q hq => by
  have hnl := nl_cO (gok_lk h)
  unfold lF at hq
  obtain ⟨k, hk, rfl⟩ := List.mem_map.1 hq
  have hk := List.mem_range.1 hk
  have hx := (nth_lt hnl hk).1
  obtain ⟨⟨t0, t1, c⟩, hv⟩ := h.2.2 _ hx
  show (F (nth (cO n F a) k)).t ≤ _
  omega
/-- what the model says yes to is read by its bytes -/
theorem unm_at {M : List UInt8} {g : Gr} (h : UnM M true g) : Rd M g ∧ sm5 g := by
  obtain ⟨h1, h2, h3, h4⟩ := h.1 rfl
  have hG := (pck_read h2 h3 h1).1
  have hp := h3
  unfold pck at hp
  have hd : Gok g.2.length (TF g.2) g.1 ∧ (pfl g.2.length (TF g.2) g.1).length ≤ 8192 := by
    have e := (pck_read h2 h3 h1).2
    exact ⟨hG, by rw [e.1, toI_len]; exact e.2.1⟩
  obtain ⟨c1, c2, c3⟩ := can_wv hd.1 h2
  rw [if_pos (dc_t hd)] at hp
  have e : M = [72, 49] ++ (g8 (rnm (cO g.2.length (TF g.2) g.1) g.1) (lF (cO g.2.length (TF g.2) g.1).length (cF g.2.length (TF g.2) g.1)) ++ e8 (sm64 (pbd g.2.length (TF g.2) g.1)) 8) := by
    refine toI_inj ?_
    rw [← hp, toI_app, toI_app, toI_e8, ← gbl_lF]
    unfold pfl
    rw [show pbd g.2.length (TF g.2) g.1 = [72, 49] ++ gbl (rnm (cO g.2.length (TF g.2) g.1) g.1) (cO g.2.length (TF g.2) g.1).length (cF g.2.length (TF g.2) g.1) from rfl, List.append_assoc]
    rfl
  have hr : Rd M (rnm (cO g.2.length (TF g.2) g.1) g.1, lF (cO g.2.length (TF g.2) g.1).length (cF g.2.length (TF g.2) g.1)) := ⟨e8 (sm64 (pbd g.2.length (TF g.2) g.1)) 8, c1, c2, c3, by rw [e]; rfl⟩
  have hs : sm5 (rnm (cO g.2.length (TF g.2) g.1) g.1, lF (cO g.2.length (TF g.2) g.1).length (cF g.2.length (TF g.2) g.1)) := can_small hd.1
  have hgg := h4 _ hr hs
  exact ⟨by rw [hgg]; exact hr, by rw [hgg]; exact hs⟩
/-- both sides answer the same -/
theorem un_agree {M : List UInt8} {ok ok' : Bool} {g g' : Gr} (h : UnR M ok g) (h' : UnM M ok' g') : ok = ok' ∧ g = g' := by
  cases ok <;> cases ok'
  · exact ⟨rfl, (h.2 rfl).1.trans (h'.2 rfl).1.symm⟩
  · have q := h'.1 rfl
    exact ((h.2 rfl).2 g' (unm_at h').1 q.1 q.2.2.1).elim
  · have q := h.1 rfl
    exact ((h'.2 rfl).2 g (unr_at h) (gok_sm5 (pck_read q.2.1 q.2.2.1 q.1).1) q.1 q.2.2.1).elim
  · exact ⟨rfl, (h.1 rfl).2.2.2 _ (unm_at h').1⟩
theorem unm_long {M : List UInt8} (h : 8192 < M.length) : UnM M false gr0 := by
  have q := (unr_long h).2 rfl
  exact ⟨fun e => (nomatch e), fun _ => ⟨rfl, fun g' h1 _ h2 h3 => q.2 g' h1 h2 h3⟩⟩
theorem unm_yes {M : List UInt8} {g : Gr} (hr : Rg g.2.length (TF g.2) g.1) (hM : M ≠ []) (hp : pck g.2.length (TF g.2) g.1 = toI M) (hx : ∀ g', Rd M g' → sm5 g' → g = g') : UnM M true g :=
  ⟨fun _ => ⟨hM, hr, hp, hx⟩, fun e => (nomatch e)⟩
theorem unm_no {M : List UInt8} {g : Gr} {lost : Bool} (hx : ∀ g', Rd M g' → sm5 g' → g = g' ∧ lost = false) (hn : lost = true ∨ (M ≠ [] → pck g.2.length (TF g.2) g.1 ≠ toI M)) : UnM M false gr0 := by
  refine ⟨fun e => (nomatch e), fun _ => ⟨rfl, fun g' h1 hs h2 h3 => ?_⟩⟩
  obtain ⟨e1, e2⟩ := hx g' h1 hs
  rcases hn with hn | hn
  · rw [e2] at hn; cases hn
  · rw [e1] at hn; exact hn h2 h3
/-- of the blocks that were there only b and h are written -/
structure Kbh (b h : Nat) (W w' : World) : Prop where
  os : w'.os = W.os
  output : w'.output = W.output
  size : W.heap.size ≤ w'.heap.size
  block : ∀ k, k < W.heap.size → k ≠ b → k ≠ h → w'.heap[k]? = W.heap[k]?
theorem Kbh.refl (b h : Nat) (W : World) : Kbh b h W W := ⟨rfl, rfl, Nat.le_refl _, fun _ _ _ _ => rfl⟩
theorem Kg.bh {b h : Nat} {W w' : World} (k : Kg b W w') : Kbh b h W w' := ⟨k.os, k.output, k.size, fun i h1 h2 _ => k.block i h1 h2⟩
theorem Kbh.trans {b h : Nat} {W w1 w2 : World} (k : Kbh b h W w1) (l : Kbh b h w1 w2) : Kbh b h W w2 := ⟨l.os.trans k.os, l.output.trans k.output, Nat.le_trans k.size l.size, fun i h1 h2 h3 => (l.block i (Nat.lt_of_lt_of_le h1 k.size) h2 h3).trans (k.block i h1 h2 h3)⟩
theorem Kbh.gr {b h : Nat} {W w2 w3 : World} {r : Option Nat} (k : Kbh b h W w2) (z : w2.grownBy w3 r) (hg : ∀ g, r = some g → W.heap.size ≤ g) : Kbh b h W w3 :=
  ⟨z.os.trans k.os, z.output.trans k.output, Nat.le_trans k.size z.size, fun i h1 h2 h3 => (z.block i (Nat.lt_of_lt_of_le h1 k.size) (fun e => by have := hg i e.symm; omega)).trans (k.block i h1 h2 h3)⟩
theorem Kbh.set {b h : Nat} {W w2 : World} (k : Kbh b h W w2) (j : Nat) (v : Value) : Kbh b h W (w2.setCell ⟨h, j, none⟩ v) := by
  have z : Kz h w2 (w2.setCell ⟨h, j, none⟩ v) := (Kz.refl h w2).set j v
  exact ⟨z.os.trans k.os, z.output.trans k.output, by rw [z.size]; exact k.size, fun i h1 h2 h3 => (z.block i h3).trans (k.block i h1 h2 h3)⟩
theorem RD.far2 {b : Nat} {a : Addr} {c : Nat} {M : List UInt8} {k : Nat} {bad : Bool} {w w' : World} (h : RD b a c M k bad w) (h1 : w'.heap[b]? = w.heap[b]?) (h2 : w'.heap[a.block]? = w.heap[a.block]?) : RD b a c M k bad w' :=
  ⟨h1.trans h.blk, h.le, h.sz, h.cap, h.ne, fun i x hx => (World.cell?_of_block (by rw [add_block]; exact h2)).trans (h.row i x hx)⟩
/-- between two elements of a list of the model, in slot j of block h -/
structure ML {α : Type} (T : TypeId) (cl : α → List Value) (ty : TypeId) (wd : Nat) (enc : α → List UInt8) (tot ok : α → Prop) (b : Nat) (a : Addr) (c : Nat) (M : List UInt8) (k : Nat) (bad : Bool) (h : Nat) (arr : Value → Array Value) (w0 : World) (most cnt : Nat) (L : List α) (k' : Nat) (bad' : Bool) (v : Value) (w : World) : Prop where
  rd : RD b a c M k' bad' w
  mn : bad = true → bad' = true
  kb : Kbh b h w0 w
  bh : w.heap[h]? = some (.cells (arr v) T (0, 0))
  row : w.ownsRow w0.heap.size ty wd v L.length (L.flatMap cl)
  tt : ∀ x, x ∈ L → tot x
  mo : L.length ≤ cnt
  ex : LJ enc ok M k bad most (cnt : Int) L k' bad'
  hb : b < w0.heap.size
  ha : a.block < w0.heap.size
  hh : h < w0.heap.size
  bn : h ≠ b
  an : h ≠ a.block
theorem ML.step {α : Type} {T : TypeId} {cl : α → List Value} {ty : TypeId} {wd : Nat} {enc : α → List UInt8} {tot ok : α → Prop} {b : Nat} {a : Addr} {c : Nat} {M : List UInt8} {k : Nat} {bad : Bool} {h : Nat} {arr : Value → Array Value} {w0 : World} {most cnt : Nat} {L : List α} {k' : Nat} {bad' : Bool} {v : Value} {wr : World} (s : ML T cl ty wd enc tot ok b a c M k bad h arr w0 most cnt L k' bad' v wr) (hl : bad' = false) (hc : L.length < cnt)
    {w1 : World} {x : α} {k2 : Nat} {bad2 : Bool} (h1 : RD b a c M k2 bad2 w1) (h3 : Kg b wr w1) (h4 : tot x) (h7 : ∀ y rest, bad' = false → ok y → M.drop k' = enc y ++ rest → x = y ∧ k2 = k' + (enc y).length ∧ bad2 = false)
    {o : Obj} {v' : Value} {w3 : World} (h8 : w3.ownsRow w0.heap.size ty wd v' (L.length + 1) (L.flatMap cl ++ cl x)) (h9 : (w1.alloc o).grownBy w3 v.ownBlock) {j : Nat} (hj : (arr v).setIfInBounds j v' = arr v') : ML T cl ty wd enc tot ok b a c M k bad h arr w0 most cnt (L ++ [x]) k2 bad2 v' (w3.setCell ⟨h, j, none⟩ v') := by
  have hg : ∀ g, v.ownBlock = some g → w0.heap.size ≤ g := fun g e => (s.row.lt g e).1
  have hgn : ∀ i, i < w0.heap.size → some i ≠ v.ownBlock := fun i hi e => by have := hg i e.symm; omega
  have hb := s.hb
  have ha := s.ha
  have hh := s.hh
  have bn := s.bn
  have an := s.an
  have hz0 := s.kb.size
  have hz1 := h3.size
  have zk : Kz h w3 (w3.setCell ⟨h, j, none⟩ v') := (Kz.refl h w3).set j v'
  have e1 : ∀ i, i < w0.heap.size → w3.heap[i]? = w1.heap[i]? := fun i hi => (h9.block i (by rw [World.size_alloc]; omega) (hgn i hi)).trans ((kb_alloc 0 w1 o).block i (Nat.zero_le _) (by omega))
  refine ⟨h1.far2 ((zk.block b (by omega)).trans (e1 b hb)) ((zk.block _ (by omega)).trans (e1 _ ha)), ?_, ?_, ?_, ?_, ?_, ?_, ?_, hb, ha, hh, bn, an⟩
  · intro e
    have := s.mn e
    rw [hl] at this
    cases this
  · exact (((s.kb.trans h3.bh).trans (Kg.of_kb (b := b) (kb_alloc 0 w1 o)).bh).gr h9 hg).set j v'
  · have e3 : w3.heap[h]? = some (.cells (arr v) T (0, 0)) := ((e1 h hh).trans (h3.block h (by omega) bn)).trans s.bh
    rw [set_known v' e3, hj]
  · rw [List.length_append, List.flatMap_append]
    have h8' : (w3.setCell ⟨h, j, none⟩ v').ownsRow w0.heap.size ty wd v' (L.length + 1) (L.flatMap cl ++ cl x) := rowBlk9 h8 (fun g e => zk.block g (by have := (h8.lt g e).1; omega))
    simpa using h8'
  · intro y hy
    rcases List.mem_append.1 hy with hy | hy
    · exact s.tt y hy
    · rw [List.mem_singleton.1 hy]; exact h4
  · rw [List.length_append, List.length_singleton]
    omega
  · exact s.ex.step (by omega) h7
theorem ML.blk {α : Type} {T : TypeId} {cl : α → List Value} {ty : TypeId} {wd : Nat} {enc : α → List UInt8} {tot ok : α → Prop} {b : Nat} {a : Addr} {c : Nat} {M : List UInt8} {k : Nat} {bad : Bool} {h : Nat} {arr : Value → Array Value} {w0 : World} {most cnt : Nat} {L : List α} {k' : Nat} {bad' : Bool} {v : Value} {wr : World} (s : ML T cl ty wd enc tot ok b a c M k bad h arr w0 most cnt L k' bad' v wr) {w1 w3 : World} {o : Obj} (h3 : Kg b wr w1) (h9 : (w1.alloc o).grownBy w3 v.ownBlock) : w3.heap[h]? = some (.cells (arr v) T (0, 0)) := by
  have hh := s.hh
  have hz0 := s.kb.size
  have hz1 := h3.size
  exact (((h9.block h (by rw [World.size_alloc]; omega) (fun e => by have := (s.row.lt h e.symm).1; omega)).trans ((kb_alloc 0 w1 o).block h (Nat.zero_le _) (by omega))).trans (h3.block h (by omega) s.bn)).trans s.bh
/-- a thing that the model can read -/
def Tok5 (q : Int × List Gv) : Prop := Tok q ∧ q.1 ≤ 5000
def Tt5 (q : Int × List Gv) : Prop := (∀ x, x ∈ q.2 → Rv x) ∧ q.2.length ≤ 5000
/-- between two things of the model's graph, in cell 4 of block h -/
structure MT (b : Nat) (a : Addr) (c : Nat) (M : List UInt8) (k : Nat) (bad : Bool) (h : Nat) (r : Gv) (w0 : World) (cnt : Nat) (L : List TV) (k' : Nat) (bad' : Bool) (v : Value) (w : World) : Prop where
  rd : RD b a c M k' bad' w
  mn : bad = true → bad' = true
  kb : Kbh b h w0 w
  bh : w.heap[h]? = some (.cells #[.int .i64 r.k, .int .i64 r.m, .string r.x, .int .i64 r.r, v] 44 (0, 0))
  row : w.ownsRow w0.heap.size 50 2 v L.length (L.flatMap tvc)
  own : OwnT w0.heap.size w L v.ownBlock
  tt : ∀ z, z ∈ L → Tt5 z.1
  mo : L.length ≤ cnt
  ex : LJ te Tok5 M k bad 600 (cnt : Int) (L.map (·.1)) k' bad'
  hb : b < w0.heap.size
  ha : a.block < w0.heap.size
  hh : h < w0.heap.size
  bn : h ≠ b
  an : h ≠ a.block
theorem MT.step {b : Nat} {a : Addr} {c : Nat} {M : List UInt8} {k : Nat} {bad : Bool} {h : Nat} {r : Gv} {w0 : World} {cnt : Nat} {L : List TV} {k' : Nat} {bad' : Bool} {v : Value} {wr : World} (s : MT b a c M k bad h r w0 cnt L k' bad' v wr) (hl : bad' = false) (hc : L.length < cnt)
    {w1 : World} {q : Int × List Gv} {vq : Value} {k2 : Nat} {bad2 : Bool} (h1 : RD b a c M k2 bad2 w1) (h3 : Kg b wr w1) (hq : w1.ownsRow wr.heap.size 41 4 vq q.2.length (q.2.flatMap glc)) (h4 : Tt5 q) (h7 : ∀ y rest, bad' = false → Tok5 y → M.drop k' = te y ++ rest → q = y ∧ k2 = k' + (te y).length ∧ bad2 = false)
    {o : Obj} {g' c' n' : Nat} {w3 : World} (h8 : w3.ownsRow w0.heap.size 50 2 (.slice (some ⟨g', 0, none⟩) n' c') (L.length + 1) (L.flatMap tvc ++ tvc (q, vq))) (h9 : (w1.alloc o).grownBy w3 v.ownBlock) (h10 : v.ownBlock = some g' ∨ g' = w1.heap.size + 1) : MT b a c M k bad h r w0 cnt (L ++ [(q, vq)]) k2 bad2 (.slice (some ⟨g', 0, none⟩) n' c') (w3.setCell ⟨h, 4, none⟩ (.slice (some ⟨g', 0, none⟩) n' c')) := by
  have hg : ∀ g, v.ownBlock = some g → w0.heap.size ≤ g := fun g e => (s.row.lt g e).1
  have hgn : ∀ i, i < w0.heap.size → some i ≠ v.ownBlock := fun i hi e => by have := hg i e.symm; omega
  have hb := s.hb
  have ha := s.ha
  have hh := s.hh
  have bn := s.bn
  have an := s.an
  have hz0 := s.kb.size
  have hz1 := h3.size
  have zk : Kz h w3 (w3.setCell ⟨h, 4, none⟩ (.slice (some ⟨g', 0, none⟩) n' c')) := (Kz.refl h w3).set 4 _
  have e1 : ∀ i, i < w0.heap.size → w3.heap[i]? = w1.heap[i]? := fun i hi => (h9.block i (by rw [World.size_alloc]; omega) (hgn i hi)).trans ((kb_alloc 0 w1 o).block i (Nat.zero_le _) (by omega))
  refine ⟨h1.far2 ((zk.block b (by omega)).trans (e1 b hb)) ((zk.block _ (by omega)).trans (e1 _ ha)), ?_, ?_, ?_, ?_, ?_, ?_, ?_, ?_, hb, ha, hh, bn, an⟩
  · intro e
    have := s.mn e
    rw [hl] at this
    cases this
  · exact (((s.kb.trans h3.bh).trans (Kg.of_kb (b := b) (kb_alloc 0 w1 o)).bh).gr h9 hg).set 4 _
  · have e3 : w3.heap[h]? = some (.cells #[.int .i64 r.k, .int .i64 r.m, .string r.x, .int .i64 r.r, v] 44 (0, 0)) := ((e1 h hh).trans (h3.block h (by omega) bn)).trans s.bh
    rw [set_known _ e3]
    rfl
  · rw [List.length_append, List.flatMap_append]
    have h8' : (w3.setCell ⟨h, 4, none⟩ (.slice (some ⟨g', 0, none⟩) n' c')).ownsRow w0.heap.size 50 2 (.slice (some ⟨g', 0, none⟩) n' c') (L.length + 1) (L.flatMap tvc ++ tvc (q, vq)) := rowBlk9 h8 (fun g e => zk.block g (by have := (h8.lt g e).1; omega))
    simpa using h8'
  · have h := s.own.step h3 hb s.kb.size (fun g e => (s.row.lt g e).2) ⟨hq, fun g e => (hq.lt g e).2⟩ h9 h10
    exact h.mono (Nat.le_refl _) (by rw [zk.size]; exact Nat.le_refl _) (fun g g1 g2 => zk.block g (by omega))
  · intro y hy
    rcases List.mem_append.1 hy with hy | hy
    · exact s.tt y hy
    · rw [List.mem_singleton.1 hy]; exact h4
  · rw [List.length_append, List.length_singleton]
    omega
  · rw [List.map_append]
    exact s.ex.step (by rw [List.length_map]; omega) h7
theorem MT.blk {b : Nat} {a : Addr} {c : Nat} {M : List UInt8} {k : Nat} {bad : Bool} {h : Nat} {r : Gv} {w0 : World} {cnt : Nat} {L : List TV} {k' : Nat} {bad' : Bool} {v : Value} {wr : World} (s : MT b a c M k bad h r w0 cnt L k' bad' v wr) {w1 w3 : World} {o : Obj} (h3 : Kg b wr w1) (h9 : (w1.alloc o).grownBy w3 v.ownBlock) : w3.heap[h]? = some (.cells #[.int .i64 r.k, .int .i64 r.m, .string r.x, .int .i64 r.r, v] 44 (0, 0)) := by
  have hh := s.hh
  have hz0 := s.kb.size
  have hz1 := h3.size
  exact (((h9.block h (by rw [World.size_alloc]; omega) (fun e => by have := (s.row.lt h e.symm).1; omega)).trans ((kb_alloc 0 w1 o).block h (Nat.zero_le _) (by omega))).trans (h3.block h (by omega) s.bn)).trans s.bh
theorem MT.at {b : Nat} {a : Addr} {c : Nat} {M : List UInt8} {k : Nat} {bad : Bool} {h : Nat} {r : Gv} {w0 : World} {cnt : Nat} {L : List TV} {k' : Nat} {bad' : Bool} {v : Value} {wr : World} (s : MT b a c M k bad h r w0 cnt L k' bad' v wr) {w1 : World} (h3 : Kg b wr w1) : w1.heap[h]? = some (.cells #[.int .i64 r.k, .int .i64 r.m, .string r.x, .int .i64 r.r, v] 44 (0, 0)) :=
  (h3.block h (by have := s.hh; have := s.kb.size; omega) s.bn).trans s.bh
/-- one thing is read exactly -/
theorem te_ex {M : List UInt8} {kk k1 k2 k3 t n : Nat} {b1 b2 b3 : Bool} {L : List Gv} (h1 : ∀ (y : Nat) rest, y ≤ 5000 → M.drop kk = vb y ++ rest → t = y ∧ k1 = kk + (vb y).length ∧ b1 = false) (h2 : ∀ (y : Nat) rest, y ≤ 5000 → M.drop k1 = vb y ++ rest → n = y ∧ k2 = k1 + (vb y).length ∧ b2 = b1) (h3 : LX v8 Wv M k2 b2 300 (n : Int) L k3 b3) : ∀ y rest, Tok5 y → M.drop kk = te y ++ rest → (((t : Int), L) : Int × List Gv) = y ∧ k3 = kk + (te y).length ∧ b3 = false := by
  intro y rest hy hm
  obtain ⟨⟨y0, y1, y2, y3⟩, y5⟩ := hy
  unfold te t8 at hm
  rw [List.append_assoc] at hm
  obtain ⟨r1, r2, r3⟩ := h1 y.1.toNat _ (by omega) hm
  have hm2 := drop_app hm
  rw [← r2, List.append_assoc] at hm2
  obtain ⟨q1, q2, q3⟩ := h2 y.2.length _ (by omega) hm2
  have hm3 := drop_app hm2
  rw [← q2] at hm3
  obtain ⟨p1, p2, p3⟩ := h3 y.2 rest (by rw [q3, r3]) y2 (by rw [q1]) y3 hm3
  refine ⟨Prod.ext (by show (t : Int) = y.1; omega) p1, ?_, p3⟩
  rw [p2, q2, r2]
  unfold te t8
  rw [List.length_append, List.length_append]
  omega
end Go.Proofs.Ytamcnmnaadpfoaa.Fo
