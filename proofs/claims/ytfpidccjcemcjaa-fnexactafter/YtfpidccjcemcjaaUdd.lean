import Derived.Test.YtfpidccjcemcjaaUdc
namespace Go.Proofs.Ytfpidccjcemcjaa
open Go.ChangeShapes Go.WideShapes Go.ChangeAt Go.RowKit
set_option linter.unusedVariables false
set_option maxRecDepth 100000
theorem qr_cells (w : World) (c : Array Value) (t : TypeId) (l : List Value) (hl : c.toList = l) : ∀ j u, l[j]? = some u → (w.alloc (.cells c t)).cell? ((⟨w.heap.size, 0, none⟩ : Addr).add j) = some u := by
  intro j u hj
  subst hl
  rw [addr0, World.cell?_alloc_mark]
  simpa using hj
theorem rowBlk {W W' : World} {base e size : Nat} {v : Value} {n : Nat} {xs : List Value} (h : W.ownsRow base e size v n xs) (hk : ∀ g, v.ownBlock = some g → W'.heap[g]? = W.heap[g]?) : W'.ownsRow base e size v n xs := by
  refine ⟨h.1, ?_⟩
  rcases h.2 with h | ⟨g, cap, cur, e1, e2, e3, e4⟩
  · exact .inl h
  · exact .inr ⟨g, cap, cur, e1, e2, (hk g (by rw [e1]; rfl)).trans e3, e4⟩
theorem infoPair : (Try.prog.info? 51).map (fun i => (i.zero, i.size, i.bytes)) = some (some z11, 11, 104) := by kernel_rfl
/-- a pair's cells -/
def pcl (p : Pv) : List Value := [.int .i64 p.a.k, .int .i64 p.a.m, .float .f64 p.a.g, .string p.a.x, .int .i64 p.a.r, .int .i64 p.b.k, .int .i64 p.b.m, .float .f64 p.b.g, .string p.b.x, .int .i64 p.b.r, .int .i64 p.t]
/-- keys and Turns of pairs -/
def kts (l : List Pv) : List (Vv × Int) := l.map fun p => (p.a, p.t)
/-- a ledger: its pairs so far, and the Turns by their keys -/
structure Lg (w : World) (B M : Nat) (pre : List Pv) (v : Value) (T : Int) (W : World) : Prop where
  kq : Kq w W
  lo : w.heap.size ≤ M
  mb : M < B
  ob : W.heap[B]? = some (.cells #[v, .int .i64 T, .map (some M)] 74 (0, 0))
  row : W.ownsRow (B + 1) 51 11 v pre.length (pre.flatMap pcl)
  mp : Mp W M (kts pre)
theorem lt_of_obj {W : World} {B : Nat} {o : Obj} (h : W.heap[B]? = some o) : B < W.heap.size := by
  rcases Nat.lt_or_ge B W.heap.size with g | g
  · exact g
  · rw [Array.getElem?_eq_none g] at h; cases h
theorem Lg.lt {w : World} {B M : Nat} {pre : List Pv} {v : Value} {T : Int} {W : World} (h : Lg w B M pre v T W) : B < W.heap.size := lt_of_obj h.ob
theorem Lg.on {w : World} {B M : Nat} {pre : List Pv} {v : Value} {T : Int} {W W' : World} (h : Lg w B M pre v T W) (k : Kq W W') : Lg w B M pre v T W' :=
  ⟨h.kq.trans k, h.lo, h.mb, (k.block _ h.lt).trans h.ob, rowBlk h.row (fun g e => k.block g (h.row.lt g e).2), h.mp.kq k⟩
theorem Lg.shape {w : World} {B M : Nat} {pre : List Pv} {v : Value} {T : Int} {W : World} (h : Lg w B M pre v T W) : ∃ (ad : Option Addr) (cap : Nat), v = .slice ad pre.length cap := by
  rcases h.row.2 with ⟨rfl, e⟩ | ⟨g, cap, cur, rfl, _⟩
  · exact ⟨none, 0, by rw [show pre.length = 0 from e]⟩
  · exact ⟨_, cap, rfl⟩
/-- a row more, told to the ledger -/
theorem Lg.add {w : World} {B M : Nat} {pre : List Pv} {v v' : Value} {T : Int} {A w7 : World} {E : Obj} {p : Pv} (h : Lg w B M pre v T A) (ho : w7.ownsRow (B + 1) 51 11 v' (pre.length + 1) (pre.flatMap pcl ++ pcl p)) (hg : (A.alloc E).grownBy w7 v.ownBlock) :
    w7.cell? ⟨B, 0, none⟩ = some v ∧ w7.frozen? ⟨B, 0, none⟩ = false ∧ (∀ k, k < A.heap.size → some k ≠ v.ownBlock → w7.heap[k]? = A.heap[k]?) ∧ (w7.setCell ⟨B, 0, none⟩ v').heap[B]? = some (.cells #[v', .int .i64 T, .map (some M)] 74 (0, 0)) ∧ (w7.setCell ⟨B, 0, none⟩ v').ownsRow (B + 1) 51 11 v' (pre ++ [p]).length ((pre ++ [p]).flatMap pcl) ∧ Mp (w7.setCell ⟨B, 0, none⟩ v') M (kts pre) ∧ Kq w (w7.setCell ⟨B, 0, none⟩ v') := by
  have hblk : ∀ k, k < A.heap.size → some k ≠ v.ownBlock → w7.heap[k]? = A.heap[k]? := fun k hk hne => (hg.block k (by simp; omega) hne).trans (Below.heap_alloc _ _ _ hk)
  have hlow : ∀ k, k ≤ B → w7.heap[k]? = A.heap[k]? := fun k hk => hblk k (by have := h.lt; omega) (fun e2 => by have := (h.row.lt k e2.symm).1; omega)
  have hf := (hlow B (Nat.le_refl _)).trans h.ob
  have hgs := hg.size
  simp at hgs
  have hse : ∀ k, k ≠ B → (w7.setCell ⟨B, 0, none⟩ v').heap[k]? = w7.heap[k]? := fun k hne => Below.heap_setCell w7 _ _ _ hne
  have hlo := h.lo
  have hmb := h.mb
  refine ⟨by simp [World.cell?, hf], by simp [World.frozen?, hf], hblk, ?_, ?_, ?_, ⟨hg.os.trans h.kq.os, hg.output.trans h.kq.output, by have := h.kq.size; simp; omega, fun k hk => ?_⟩⟩
  · simp [World.setCell, Array.getElem?_modify, hf]
  · rw [List.length_append, List.flatMap_append]
    refine rowBlk (W := w7) (by simpa using ho) (fun g e2 => hse g ?_)
    have := (ho.lt g e2).1
    omega
  · obtain ⟨es, clock, hb, he⟩ := h.mp
    exact ⟨es, clock, (hse M (by omega)).trans ((hlow M (by omega)).trans hb), he⟩
  · rw [hse k (by omega), hlow k (by omega)]
    exact h.kq.block k hk
set_option maxHeartbeats 16000000 in
theorem im_enter0 (p : Pv) (hk : kok p.a) (hxa : (p.a.x.size : Int) ≤ 1048576) (hxb : (p.b.x.size : Int) ≤ 1048576) {w : World} {B M : Nat} {pre : List Pv} {v : Value} {T : Int} (W : World) (hL : Lg w B M pre v T W) (hln : look p.a (kts pre) = none) (hlen : pre.length ≤ 1000) :
    Calls Try.prog 67 #[.pointer (some ⟨B, 0, none⟩), pv p] W fun e W' => e = .returned (.tuple #[]) ∧ ∃ v', Lg w B M (pre ++ [p]) v' T W' := by
  have HCA := fun w => im_cloned p.a hxa w
  have HCB := fun w => im_cloned p.b hxb w
  have HMK := fun w => im_mark p.a hk w
  have HUP : Hid (∀ W, Mp W M (kts pre) → ∃ o, (Instr.mapUpdate 72 (.map (some M)) (mkw p.a) (.int .i64 p.t)).run Try.prog W = .ok () (setB W M o) ∧ Mp (setB W M o) M (kts pre ++ [(p.a, p.t)])) := (fun W h => run_updMk h p.a p.t hln : ∀ W, _)
  have HKT : Hid (kts (pre ++ [p]) = kts pre ++ [(p.a, p.t)]) := (by unfold kts; simp : kts (pre ++ [p]) = kts pre ++ [(p.a, p.t)])
  obtain ⟨A, hA'⟩ : ∃ A, A = W.alloc (.cells #[.int .i64 p.a.k, .int .i64 p.a.m, .float .f64 p.a.g, .string p.a.x, .int .i64 p.a.r, .int .i64 p.b.k, .int .i64 p.b.m, .float .f64 p.b.g, .string p.b.x, .int .i64 p.b.r, .int .i64 p.t] 51) := ⟨_, rfl⟩
  have kA : Kq W A := by rw [hA']; exact kq_alloc _ _ _
  have pA : Pb A W.heap.size p := by rw [hA']; exact Pb.new _ _ _
  have hLA := hL.on kA
  have hAz : W.heap.size < A.heap.size := lt_of_cell pA.c0
  have hvl : some W.heap.size ≠ v.ownBlock := fun e => by have := (hL.row.lt _ e.symm).2; omega
  have hBW := hL.lt
  have hmb := hL.mb
  obtain ⟨n, hn⟩ : ∃ n, n = pre.length := ⟨_, rfl⟩
  have hn1 : n + 1 ≤ 1001 := by omega
  obtain ⟨i0, hi0, hz0, hz1, hz2⟩ := info_parts infoPair
  have HI0 : Hid (Try.prog.info? 51 = some i0) := hi0
  have HS : Hid (∀ W', Kq A W' → W'.cell? ⟨B, 0, none⟩ = some v ∧ Pb W' W.heap.size p) := (fun W' q => ⟨cell_of ((q.block B (by omega)).trans hLA.ob) rfl, pA.kq q⟩ : ∀ W', Kq A W' → _)
  have HOWN : Hid (∀ W', Kq A W' → ∀ u : Obj, (W'.alloc u).ownsRow (B + 1) 51 11 v n (pre.flatMap pcl)) := (fun W' hb u => by rw [hn]; exact (hLA.on hb).row.alloc u : ∀ W', _)
  have HZ : Hid (B + 1 ≤ A.heap.size) := (by omega : B + 1 ≤ A.heap.size)
  have HADD : Hid (∀ (w4 : World), Kq A w4 → ∀ (E : Obj) (g cap : Nat) (w7 : World), w7.ownsRow (B + 1) 51 11 (.slice (some ⟨g, 0, none⟩) (n + 1) cap) (n + 1) (pre.flatMap pcl ++ pcl p) → (w4.alloc E).grownBy w7 v.ownBlock →
      w7.cell? ⟨B, 0, none⟩ = some v ∧ Pb w7 W.heap.size p ∧ w7.frozen? ⟨B, 0, none⟩ = false ∧ (∀ w8, w8 = w7.setCell ⟨B, 0, none⟩ (.slice (some ⟨g, 0, none⟩) (n + 1) cap) → w8.cell? ⟨B, 2, none⟩ = some (.map (some M)) ∧ Mp w8 M (kts pre) ∧ Pb w8 W.heap.size p ∧ (∀ w9, Kq w8 w9 → ∀ o, Mp (setB w9 M o) M (kts (pre ++ [p])) → Lg w B M (pre ++ [p]) (.slice (some ⟨g, 0, none⟩) (n + 1) cap) T (setB w9 M o)))) := (fun w4 hb E g cap w7 ho hgr => by
    subst hn
    obtain ⟨q1, q2, q3, q4, q5, q6, q7⟩ := Lg.add (p := p) (hLA.on hb) ho hgr
    have hP7 : w7.heap[W.heap.size]? = A.heap[W.heap.size]? := (q3 W.heap.size (by have := hb.size; omega) hvl).trans (hb.block _ hAz)
    have p7 : Pb w7 W.heap.size p := by
      have e : ∀ j, w7.cell? ⟨W.heap.size, j, none⟩ = A.cell? ⟨W.heap.size, j, none⟩ := fun j => World.cell?_of_block hP7
      obtain ⟨c0, c1, c2, c3, c4, c5, c6, c7, c8, c9, c10⟩ := pA
      exact ⟨(e _).trans c0, (e _).trans c1, (e _).trans c2, (e _).trans c3, (e _).trans c4, (e _).trans c5, (e _).trans c6, (e _).trans c7, (e _).trans c8, (e _).trans c9, (e _).trans c10⟩
    refine ⟨q1, p7, q2, fun w8 h8 => ?_⟩
    rw [← h8] at q4 q5 q6 q7
    have p8 : Pb w8 W.heap.size p := by
      have e : ∀ j, w8.cell? ⟨W.heap.size, j, none⟩ = w7.cell? ⟨W.heap.size, j, none⟩ := fun j => World.cell?_of_block (by rw [h8]; exact Below.heap_setCell _ _ _ _ (by show W.heap.size ≠ B; omega))
      obtain ⟨c0, c1, c2, c3, c4, c5, c6, c7, c8, c9, c10⟩ := p7
      exact ⟨(e _).trans c0, (e _).trans c1, (e _).trans c2, (e _).trans c3, (e _).trans c4, (e _).trans c5, (e _).trans c6, (e _).trans c7, (e _).trans c8, (e _).trans c9, (e _).trans c10⟩
    refine ⟨cell_of q4 rfl, q6, p8, fun w9 k9 o hM => ?_⟩
    have q9 := q7.trans k9
    have hlo := hL.lo
    have hse : ∀ b, b ≠ M → (setB w9 M o).heap[b]? = w9.heap[b]? := fun b hb => by
      unfold setB
      show (w9.heap.setIfInBounds M o)[b]? = _
      rw [Array.getElem?_setIfInBounds]
      rw [if_neg (fun e => hb e.symm)]
    refine ⟨⟨q9.os, q9.output, by unfold setB; simpa using q9.size, fun b hb => (hse b (by omega)).trans (q9.block b hb)⟩, hL.lo, hL.mb, (hse B (by omega)).trans ((k9.block B (lt_of_obj q4)).trans q4), rowBlk q5 (fun g e => ?_), hM⟩
    have hg := q5.lt g e
    exact (hse g (by omega)).trans (k9.block g hg.2) : ∀ (w4 : World), _)
  clear hL hLA kA hvl hBW hmb hi0 hk hxa hxb hln hlen hn
  have S0 := (show ∀ W', Kq A W' → W'.cell? ⟨B, 0, none⟩ = some v ∧ Pb W' W.heap.size p from HS) A (Kq.refl _)
  obtain ⟨⟨k, m, g, x, r⟩, ⟨k2, m2, g2, x2, r2⟩, t⟩ := p
  unfold vv at HCA HCB HMK
  dsimp only at *
  generalize mkw ⟨k, m, g, x, r⟩ = mw at HMK HUP
  have h1c : ∀ u ∈ [(.int .i64 k : Value), .int .i64 m, .float .f64 g, .string x, .int .i64 r, .int .i64 k2, .int .i64 m2, .float .f64 g2, .string x2, .int .i64 r2, .int .i64 t], u.oneCell' = true := by intro u hu; simp at hu; rcases hu with rfl | rfl | rfl | rfl | rfl | rfl | rfl | rfl | rfl | rfl | rfl <;> rfl
  have hst : ∀ (a : Addr) (n : Nat) (m : Mode) (w : World), (store a (.float .f64 n) m).run Try.prog w = stored Try.prog w a (.float .f64 n) m := fun a n m w => run_store _ _ _ _ _ rfl
  unfold pv
  dsimp only
  go_enter Try.func67, Try.ntmps67
  go_wp2_with fail
  rw [← hA']
  clear hA'
  refine AnyL.region (S := fun W' : World => W'.cell? ⟨B, 0, none⟩ = some v ∧ Pb W' W.heap.size ⟨⟨k, m, g, x, r⟩, ⟨k2, m2, g2, x2, r2⟩, t⟩) (z := 18) (by kernel_rfl) ?_
  have hS0 : (fun W' : World => W'.cell? ⟨B, 0, none⟩ = some v ∧ Pb W' W.heap.size ⟨⟨k, m, g, x, r⟩, ⟨k2, m2, g2, x2, r2⟩, t⟩) A.drew := (show ∀ W', Kq A W' → W'.cell? ⟨B, 0, none⟩ = some v ∧ Pb W' W.heap.size ⟨⟨k, m, g, x, r⟩, ⟨k2, m2, g2, x2, r2⟩, t⟩ from HS) A.drew (Kq.drew (Kq.refl _))
  refine AnyL.takeAt 0 (.pointer (some ⟨B, 0, none⟩)) rfl (by kernel_rfl) (by kernel_rfl) (by kernel_rfl) (by kernel_rfl) (fun _ _ _ h => h) rfl hS0 (by intro W hW; obtain ⟨q0, ⟨c0, c1, c2, c3, c4, c5, c6, c7, c8, c9, c10⟩⟩ := hW; dsimp only at c0 c1 c2 c3 c4 c5 c6 c7 c8 c9 c10; go_simp) ?_
  try simp only [Act.put, List.setIfInBounds_toArray, List.set_cons_zero, List.set_cons_succ]
  refine AnyL.takeAt 1 (.pointer (some ⟨B, 0, none⟩)) rfl (by kernel_rfl) (by kernel_rfl) (by kernel_rfl) (by kernel_rfl) (fun _ _ _ h => h) rfl hS0 (by intro W hW; obtain ⟨q0, ⟨c0, c1, c2, c3, c4, c5, c6, c7, c8, c9, c10⟩⟩ := hW; dsimp only at c0 c1 c2 c3 c4 c5 c6 c7 c8 c9 c10; go_simp) ?_
  try simp only [Act.put, List.setIfInBounds_toArray, List.set_cons_zero, List.set_cons_succ]
  refine AnyL.takeAt 2 (.pointer (some ⟨B, 0, none⟩)) rfl (by kernel_rfl) (by kernel_rfl) (by kernel_rfl) (by kernel_rfl) (fun _ _ _ h => h) rfl hS0 (by intro W hW; obtain ⟨q0, ⟨c0, c1, c2, c3, c4, c5, c6, c7, c8, c9, c10⟩⟩ := hW; dsimp only at c0 c1 c2 c3 c4 c5 c6 c7 c8 c9 c10; go_simp) ?_
  try simp only [Act.put, List.setIfInBounds_toArray, List.set_cons_zero, List.set_cons_succ]
  refine AnyL.takeAt 3 (.pointer (some ⟨B, 0, none⟩)) rfl (by kernel_rfl) (by kernel_rfl) (by kernel_rfl) (by kernel_rfl) (fun _ _ _ h => h) rfl hS0 (by intro W hW; obtain ⟨q0, ⟨c0, c1, c2, c3, c4, c5, c6, c7, c8, c9, c10⟩⟩ := hW; dsimp only at c0 c1 c2 c3 c4 c5 c6 c7 c8 c9 c10; go_simp) ?_
  try simp only [Act.put, List.setIfInBounds_toArray, List.set_cons_zero, List.set_cons_succ]
  refine AnyL.takeAt 4 (v) rfl (by kernel_rfl) (by kernel_rfl) (by kernel_rfl) (by kernel_rfl) (fun _ _ _ h => h) rfl hS0 (by intro W hW; obtain ⟨q0, ⟨c0, c1, c2, c3, c4, c5, c6, c7, c8, c9, c10⟩⟩ := hW; dsimp only at c0 c1 c2 c3 c4 c5 c6 c7 c8 c9 c10; go_simp) ?_
  try simp only [Act.put, List.setIfInBounds_toArray, List.set_cons_zero, List.set_cons_succ]
  refine AnyL.takeAt 5 (.pointer (some ⟨W.heap.size, 0, none⟩)) rfl (by kernel_rfl) (by kernel_rfl) (by kernel_rfl) (by kernel_rfl) (fun _ _ _ h => h) rfl hS0 (by intro W hW; obtain ⟨q0, ⟨c0, c1, c2, c3, c4, c5, c6, c7, c8, c9, c10⟩⟩ := hW; dsimp only at c0 c1 c2 c3 c4 c5 c6 c7 c8 c9 c10; go_simp) ?_
  try simp only [Act.put, List.setIfInBounds_toArray, List.set_cons_zero, List.set_cons_succ]
  refine AnyL.takeAt 6 (.agg #[.int .i64 k, .int .i64 m, .float .f64 g, .string x, .int .i64 r]) rfl (by kernel_rfl) (by kernel_rfl) (by kernel_rfl) (by kernel_rfl) (fun _ _ _ h => h) rfl hS0 (by intro W hW; obtain ⟨q0, ⟨c0, c1, c2, c3, c4, c5, c6, c7, c8, c9, c10⟩⟩ := hW; dsimp only at c0 c1 c2 c3 c4 c5 c6 c7 c8 c9 c10; go_simp) ?_
  try simp only [Act.put, List.setIfInBounds_toArray, List.set_cons_zero, List.set_cons_succ]
  refine AnyL.takeAt 8 (.pointer (some ⟨W.heap.size, 5, none⟩)) rfl (by kernel_rfl) (by kernel_rfl) (by kernel_rfl) (by kernel_rfl) (fun _ _ _ h => h) rfl hS0 (by intro W hW; obtain ⟨q0, ⟨c0, c1, c2, c3, c4, c5, c6, c7, c8, c9, c10⟩⟩ := hW; dsimp only at c0 c1 c2 c3 c4 c5 c6 c7 c8 c9 c10; go_simp) ?_
  try simp only [Act.put, List.setIfInBounds_toArray, List.set_cons_zero, List.set_cons_succ]
  refine AnyL.takeAt 9 (.agg #[.int .i64 k2, .int .i64 m2, .float .f64 g2, .string x2, .int .i64 r2]) rfl (by kernel_rfl) (by kernel_rfl) (by kernel_rfl) (by kernel_rfl) (fun _ _ _ h => h) rfl hS0 (by intro W hW; obtain ⟨q0, ⟨c0, c1, c2, c3, c4, c5, c6, c7, c8, c9, c10⟩⟩ := hW; dsimp only at c0 c1 c2 c3 c4 c5 c6 c7 c8 c9 c10; go_simp) ?_
  try simp only [Act.put, List.setIfInBounds_toArray, List.set_cons_zero, List.set_cons_succ]
  refine AnyL.takeAt 11 (.pointer (some ⟨W.heap.size, 10, none⟩)) rfl (by kernel_rfl) (by kernel_rfl) (by kernel_rfl) (by kernel_rfl) (fun _ _ _ h => h) rfl hS0 (by intro W hW; obtain ⟨q0, ⟨c0, c1, c2, c3, c4, c5, c6, c7, c8, c9, c10⟩⟩ := hW; dsimp only at c0 c1 c2 c3 c4 c5 c6 c7 c8 c9 c10; go_simp) ?_
  try simp only [Act.put, List.setIfInBounds_toArray, List.set_cons_zero, List.set_cons_succ]
  refine AnyL.takeAt 12 (.int .i64 t) rfl (by kernel_rfl) (by kernel_rfl) (by kernel_rfl) (by kernel_rfl) (fun _ _ _ h => h) rfl hS0 (by intro W hW; obtain ⟨q0, ⟨c0, c1, c2, c3, c4, c5, c6, c7, c8, c9, c10⟩⟩ := hW; dsimp only at c0 c1 c2 c3 c4 c5 c6 c7 c8 c9 c10; go_simp) ?_
  try simp only [Act.put, List.setIfInBounds_toArray, List.set_cons_zero, List.set_cons_succ]
  refine AnyL.oneAt 7 rfl (by kernel_rfl) rfl ?_
  intro K hK
  go_simp
  refine (HCA _).mono ?_
  rintro e w3 ⟨rfl, g3⟩
  have K3 : Hid (Kq A w3) := Kq.trans (Kq.drew (Kq.refl _)) g3
  have hS3 := (show ∀ W', Kq A W' → W'.cell? ⟨B, 0, none⟩ = some v ∧ Pb W' W.heap.size ⟨⟨k, m, g, x, r⟩, ⟨k2, m2, g2, x2, r2⟩, t⟩ from HS) w3 K3
  clear g3
  refine hK.out _ _ (fun _ => hS3) ?_
  clear hK K
  try simp only [Act.put, List.setIfInBounds_toArray, List.set_cons_zero, List.set_cons_succ]
  refine AnyL.oneAt 10 rfl (by kernel_rfl) rfl ?_
  intro K hK
  go_simp
  refine (HCB _).mono ?_
  rintro e w4 ⟨rfl, g4⟩
  have K4 : Hid (Kq A w4) := Kq.trans K3 g4
  have hS4 := (show ∀ W', Kq A W' → W'.cell? ⟨B, 0, none⟩ = some v ∧ Pb W' W.heap.size ⟨⟨k, m, g, x, r⟩, ⟨k2, m2, g2, x2, r2⟩, t⟩ from HS) w4 K4
  clear g4 K3 hS3 hS0
  refine hK.out _ _ (fun _ => hS4) ?_
  clear hK K
  try simp only [Act.put, List.setIfInBounds_toArray, List.set_cons_zero, List.set_cons_succ]
  refine AnyL.takeAt 13 (.agg #[.int .i64 k, .int .i64 m, .float .f64 g, .string x, .int .i64 r, .int .i64 k2, .int .i64 m2, .float .f64 g2, .string x2, .int .i64 r2, .int .i64 t]) rfl (by kernel_rfl) (by kernel_rfl) (by kernel_rfl) (by kernel_rfl) (fun _ _ _ h => h) rfl hS4 (by intro W hW; go_simp) ?_
  try simp only [Act.put, List.setIfInBounds_toArray, List.set_cons_zero, List.set_cons_succ]
  refine AnyL.oneAt 14 rfl (by kernel_rfl) rfl ?_
  intro K hK
  go_simp
  refine hK.out _ _ (fun _ => (show ∀ W', Kq A W' → W'.cell? ⟨B, 0, none⟩ = some v ∧ Pb W' W.heap.size ⟨⟨k, m, g, x, r⟩, ⟨k2, m2, g2, x2, r2⟩, t⟩ from HS) _ (Kq.trans K4 (kq_alloc _ _ _))) ?_
  clear hK K
  try simp only [Act.put, List.setIfInBounds_toArray, List.set_cons_zero, List.set_cons_succ]
  refine AnyL.oneAt 15 rfl (by kernel_rfl) rfl ?_
  intro K hK
  refine wp_append_lies _ (.tmp 8) (.tmp 18) 38 rfl (B + 1) 51 i0 z11 11 104 Try.underlying38 HI0 hz0 hz1 hz2 rfl (by decide) v n (pre.flatMap pcl) rfl ((show ∀ W', Kq A W' → ∀ u : Obj, (W'.alloc u).ownsRow (B + 1) 51 11 v n (pre.flatMap pcl) from HOWN) w4 K4 _) ⟨w4.heap.size, 0, none⟩ 1 1 [.int .i64 k, .int .i64 m, .float .f64 g, .string x, .int .i64 r, .int .i64 k2, .int .i64 m2, .float .f64 g2, .string x2, .int .i64 r2, .int .i64 t] rfl rfl (qr_cells w4 _ 51 _ rfl) h1c (by decide) (by unfold maxLen; omega) (by omega) (by have h1 := (show Kq A w4 from K4).size; have h2 := (show B + 1 ≤ A.heap.size from HZ); simp; omega) (w4.heap.size + 1) (by simp) ?_
  intro gg cap w7 hown hgrow hat hlt
  obtain ⟨s7, o7, f7, hfin⟩ := (show ∀ (w4 : World), _ from HADD) w4 K4 _ gg cap w7 hown hgrow
  have HN : Hid (∀ w8, w8 = w7.setCell ⟨B, 0, none⟩ (.slice (some ⟨gg, 0, none⟩) (n + 1) cap) → w8.cell? ⟨B, 2, none⟩ = some (.map (some M)) ∧ Mp w8 M (kts pre) ∧ Pb w8 W.heap.size ⟨⟨k, m, g, x, r⟩, ⟨k2, m2, g2, x2, r2⟩, t⟩ ∧ (∀ w9, Kq w8 w9 → ∀ o, Mp (setB w9 M o) M (kts (pre ++ [⟨⟨k, m, g, x, r⟩, ⟨k2, m2, g2, x2, r2⟩, t⟩])) → Lg w B M (pre ++ [⟨⟨k, m, g, x, r⟩, ⟨k2, m2, g2, x2, r2⟩, t⟩]) (.slice (some ⟨gg, 0, none⟩) (n + 1) cap) T (setB w9 M o))) := hfin
  refine hK.out _ _ (fun _ => ⟨s7, o7⟩) ?_
  clear hK K hS4 hfin hown hgrow hat hlt K4
  simp only [Act.put, List.setIfInBounds_toArray, List.set_cons_zero, List.set_cons_succ]
  refine AnyL.oneAt 16 rfl (by kernel_rfl) rfl ?_
  intro K hK
  go_simp
  refine hK.out _ _ (fun _ => ⟨s7, o7⟩) ?_
  clear hK K
  try simp only [Act.put, List.setIfInBounds_toArray, List.set_cons_zero, List.set_cons_succ]
  refine AnyL.takeAt 17 (.pointer (some ⟨B, 0, none⟩)) rfl (by kernel_rfl) (by kernel_rfl) (by kernel_rfl) (by kernel_rfl) (fun _ _ _ h => h) rfl ⟨s7, o7⟩ (by intro W hW; obtain ⟨q0, ⟨c0, c1, c2, c3, c4, c5, c6, c7, c8, c9, c10⟩⟩ := hW; dsimp only at c0 c1 c2 c3 c4 c5 c6 c7 c8 c9 c10; go_simp) ?_
  try simp only [Act.put, List.setIfInBounds_toArray, List.set_cons_zero, List.set_cons_succ]
  refine AnyL.oneAt 18 rfl (by kernel_rfl) rfl ?_
  intro K hK
  go_simp
  refine hK.out _ _ (fun h => absurd rfl h) ?_
  clear hK K
  refine AnyL.done (by kernel_rfl) ?_
  clear HADD HOWN HS HZ h1c HI0 hz0 hz1 hz2 s7 o7 f7 S0 HCA HCB
  obtain ⟨w8, hw8⟩ : ∃ w8, w8 = w7.setCell ⟨B, 0, none⟩ (.slice (some ⟨gg, 0, none⟩) (n + 1) cap) := ⟨_, rfl⟩
  obtain ⟨m8, mp8, p8, hend⟩ := (show ∀ w8, _ from HN) w8 hw8
  rw [← hw8]
  clear hw8 HN
  have HEND : Hid (∀ w9, Kq w8 w9 → ∀ o, Mp (setB w9 M o) M (kts (pre ++ [⟨⟨k, m, g, x, r⟩, ⟨k2, m2, g2, x2, r2⟩, t⟩])) → Lg w B M (pre ++ [⟨⟨k, m, g, x, r⟩, ⟨k2, m2, g2, x2, r2⟩, t⟩]) (.slice (some ⟨gg, 0, none⟩) (n + 1) cap) T (setB w9 M o)) := hend
  have HS : Hid (∀ W', Kq w8 W' → W'.cell? ⟨B, 2, none⟩ = some (.map (some M)) ∧ Mp W' M (kts pre) ∧ Pb W' W.heap.size ⟨⟨k, m, g, x, r⟩, ⟨k2, m2, g2, x2, r2⟩, t⟩) := (fun W' q => ⟨q.cell m8, mp8.kq q, p8.kq q⟩ : ∀ W', Kq w8 W' → _)
  clear hend
  go_wp2_with fail
  clear m8 mp8 p8
  refine AnyL.region (S := fun W' : World => W'.cell? ⟨B, 2, none⟩ = some (.map (some M)) ∧ Mp W' M (kts pre) ∧ Pb W' W.heap.size ⟨⟨k, m, g, x, r⟩, ⟨k2, m2, g2, x2, r2⟩, t⟩) (z := 9) (by kernel_rfl) ?_
  have hS0 : (fun W' : World => W'.cell? ⟨B, 2, none⟩ = some (.map (some M)) ∧ Mp W' M (kts pre) ∧ Pb W' W.heap.size ⟨⟨k, m, g, x, r⟩, ⟨k2, m2, g2, x2, r2⟩, t⟩) w8.drew := (show ∀ W', Kq w8 W' → W'.cell? ⟨B, 2, none⟩ = some (.map (some M)) ∧ Mp W' M (kts pre) ∧ Pb W' W.heap.size ⟨⟨k, m, g, x, r⟩, ⟨k2, m2, g2, x2, r2⟩, t⟩ from HS) w8.drew (Kq.drew (Kq.refl _))
  refine AnyL.takeAt 0 (.pointer (some ⟨B, 0, none⟩)) rfl (by kernel_rfl) (by kernel_rfl) (by kernel_rfl) (by kernel_rfl) (fun _ _ _ h => h) rfl hS0 (by intro W hW; obtain ⟨q0, _, ⟨c0, c1, c2, c3, c4, c5, c6, c7, c8, c9, c10⟩⟩ := hW; dsimp only at c0 c1 c2 c3 c4 c5 c6 c7 c8 c9 c10; go_simp) ?_
  try simp only [Act.put, List.setIfInBounds_toArray, List.set_cons_zero, List.set_cons_succ]
  refine AnyL.takeAt 1 (.pointer (some ⟨B, 0, none⟩)) rfl (by kernel_rfl) (by kernel_rfl) (by kernel_rfl) (by kernel_rfl) (fun _ _ _ h => h) rfl hS0 (by intro W hW; obtain ⟨q0, _, ⟨c0, c1, c2, c3, c4, c5, c6, c7, c8, c9, c10⟩⟩ := hW; dsimp only at c0 c1 c2 c3 c4 c5 c6 c7 c8 c9 c10; go_simp) ?_
  try simp only [Act.put, List.setIfInBounds_toArray, List.set_cons_zero, List.set_cons_succ]
  refine AnyL.takeAt 2 (.pointer (some ⟨B, 2, none⟩)) rfl (by kernel_rfl) (by kernel_rfl) (by kernel_rfl) (by kernel_rfl) (fun _ _ _ h => h) rfl hS0 (by intro W hW; obtain ⟨q0, _, ⟨c0, c1, c2, c3, c4, c5, c6, c7, c8, c9, c10⟩⟩ := hW; dsimp only at c0 c1 c2 c3 c4 c5 c6 c7 c8 c9 c10; go_simp) ?_
  try simp only [Act.put, List.setIfInBounds_toArray, List.set_cons_zero, List.set_cons_succ]
  refine AnyL.takeAt 3 (.map (some M)) rfl (by kernel_rfl) (by kernel_rfl) (by kernel_rfl) (by kernel_rfl) (fun _ _ _ h => h) rfl hS0 (by intro W hW; obtain ⟨q0, _, ⟨c0, c1, c2, c3, c4, c5, c6, c7, c8, c9, c10⟩⟩ := hW; dsimp only at c0 c1 c2 c3 c4 c5 c6 c7 c8 c9 c10; go_simp) ?_
  try simp only [Act.put, List.setIfInBounds_toArray, List.set_cons_zero, List.set_cons_succ]
  refine AnyL.takeAt 4 (.pointer (some ⟨W.heap.size, 0, none⟩)) rfl (by kernel_rfl) (by kernel_rfl) (by kernel_rfl) (by kernel_rfl) (fun _ _ _ h => h) rfl hS0 (by intro W hW; obtain ⟨q0, _, ⟨c0, c1, c2, c3, c4, c5, c6, c7, c8, c9, c10⟩⟩ := hW; dsimp only at c0 c1 c2 c3 c4 c5 c6 c7 c8 c9 c10; go_simp) ?_
  try simp only [Act.put, List.setIfInBounds_toArray, List.set_cons_zero, List.set_cons_succ]
  refine AnyL.takeAt 5 (.agg #[.int .i64 k, .int .i64 m, .float .f64 g, .string x, .int .i64 r]) rfl (by kernel_rfl) (by kernel_rfl) (by kernel_rfl) (by kernel_rfl) (fun _ _ _ h => h) rfl hS0 (by intro W hW; obtain ⟨q0, _, ⟨c0, c1, c2, c3, c4, c5, c6, c7, c8, c9, c10⟩⟩ := hW; dsimp only at c0 c1 c2 c3 c4 c5 c6 c7 c8 c9 c10; go_simp) ?_
  try simp only [Act.put, List.setIfInBounds_toArray, List.set_cons_zero, List.set_cons_succ]
  refine AnyL.takeAt 7 (.pointer (some ⟨W.heap.size, 10, none⟩)) rfl (by kernel_rfl) (by kernel_rfl) (by kernel_rfl) (by kernel_rfl) (fun _ _ _ h => h) rfl hS0 (by intro W hW; obtain ⟨q0, _, ⟨c0, c1, c2, c3, c4, c5, c6, c7, c8, c9, c10⟩⟩ := hW; dsimp only at c0 c1 c2 c3 c4 c5 c6 c7 c8 c9 c10; go_simp) ?_
  try simp only [Act.put, List.setIfInBounds_toArray, List.set_cons_zero, List.set_cons_succ]
  refine AnyL.takeAt 8 (.int .i64 t) rfl (by kernel_rfl) (by kernel_rfl) (by kernel_rfl) (by kernel_rfl) (fun _ _ _ h => h) rfl hS0 (by intro W hW; obtain ⟨q0, _, ⟨c0, c1, c2, c3, c4, c5, c6, c7, c8, c9, c10⟩⟩ := hW; dsimp only at c0 c1 c2 c3 c4 c5 c6 c7 c8 c9 c10; go_simp) ?_
  try simp only [Act.put, List.setIfInBounds_toArray, List.set_cons_zero, List.set_cons_succ]
  refine AnyL.oneAt 6 rfl (by kernel_rfl) rfl ?_
  intro K hK
  go_simp
  refine (HMK _).mono ?_
  rintro e w9 ⟨rfl, g9⟩
  have K9 : Hid (Kq w8 w9) := Kq.trans (Kq.drew (Kq.refl _)) g9
  have hS9 := (show ∀ W', Kq w8 W' → W'.cell? ⟨B, 2, none⟩ = some (.map (some M)) ∧ Mp W' M (kts pre) ∧ Pb W' W.heap.size ⟨⟨k, m, g, x, r⟩, ⟨k2, m2, g2, x2, r2⟩, t⟩ from HS) w9 K9
  clear g9
  refine hK.out _ _ (fun _ => hS9) ?_
  clear hK K
  try simp only [Act.put, List.setIfInBounds_toArray, List.set_cons_zero, List.set_cons_succ]
  obtain ⟨o, hup, hmo⟩ := (show ∀ W, Mp W M (kts pre) → _ from HUP) w9 hS9.2.1
  rw [← (show kts (pre ++ [⟨⟨k, m, g, x, r⟩, ⟨k2, m2, g2, x2, r2⟩, t⟩]) = _ from HKT)] at hmo
  have HE := (show ∀ w9, Kq w8 w9 → ∀ o, Mp (setB w9 M o) M (kts (pre ++ [⟨⟨k, m, g, x, r⟩, ⟨k2, m2, g2, x2, r2⟩, t⟩])) → Lg w B M (pre ++ [⟨⟨k, m, g, x, r⟩, ⟨k2, m2, g2, x2, r2⟩, t⟩]) (.slice (some ⟨gg, 0, none⟩) (n + 1) cap) T (setB w9 M o) from HEND) w9 K9 o hmo
  refine AnyL.oneAt 9 rfl (by kernel_rfl) rfl ?_
  intro K hK
  go_simp
  refine hK.out _ _ (fun h => absurd rfl h) ?_
  clear hK K
  refine AnyL.done (by kernel_rfl) ?_
  clear hS0 hS9 HS HUP HKT HEND K9 hup hmo
  go_wp2_with fail
  go_end0
  exact ⟨rfl, _, HE⟩
end Go.Proofs.Ytfpidccjcemcjaa
