import Derived.Test.YtogenhnonjkanaaDoorScb
namespace Go.Proofs.YtogenhnonjkanaaDoor
open Go.ChangeShapes Go.WideShapes Go.ChangeAt Go.RowKit Go.Shelf
set_option linter.unusedVariables false
attribute [local go_sem] Oper.semAt_some
def tcs (tk : Nat → Tk) (x : Nat × Int) : List Value := [.int .i64 (tk x.1).kind, .int .i64 x.1, .int .i64 (tk x.1).to, .int .i64 x.2, .int .i64 (tk x.1).num, .string (tk x.1).text]
theorem rowKb {W W' : World} {base e size : Nat} {v : Value} {n : Nat} {xs : List Value} {B : Nat} (h : W.ownsRow base e size v n xs) (hk : Kb B W W') (hB : B < base) : W'.ownsRow base e size v n xs := by
  refine ⟨h.1, ?_⟩
  rcases h.2 with h | ⟨g, cap, cur, e1, e2, e3, e4⟩
  · exact .inl h
  · exact .inr ⟨g, cap, cur, e1, e2, (hk.block g (Array.getElem?_eq_some_iff.1 e3).1 (by omega)).trans e3, e4⟩
theorem rowBlk {W W' : World} {base e size : Nat} {v : Value} {n : Nat} {xs : List Value} (h : W.ownsRow base e size v n xs) (hk : ∀ g, v.ownBlock = some g → W'.heap[g]? = W.heap[g]?) : W'.ownsRow base e size v n xs := by
  refine ⟨h.1, ?_⟩
  rcases h.2 with h | ⟨g, cap, cur, e1, e2, e3, e4⟩
  · exact .inl h
  · exact .inr ⟨g, cap, cur, e1, e2, (hk g (by rw [e1]; rfl)).trans e3, e4⟩
theorem ownsRow_mono' {W : World} {base base' e size : Nat} {v : Value} {n : Nat} {xs : List Value} (h : W.ownsRow base e size v n xs) (hb : base' ≤ base) : W.ownsRow base' e size v n xs := by
  refine ⟨h.1, ?_⟩
  rcases h.2 with h | ⟨g, cap, cur, e1, e2, e3⟩
  · exact .inl h
  · exact .inr ⟨g, cap, cur, e1, by omega, e3⟩
/-- the tables, by their blocks -/
theorem Gd.blk {a w : World} (h : Gd a) (hk : ∀ i, i < 8 → w.heap[i]? = a.heap[i]?) (hs : 8 ≤ w.heap.size) : Gd w := by
  have e : ∀ (g : Nat) (j : Nat), g < 8 → w.cell? ⟨g, j, none⟩ = a.cell? ⟨g, j, none⟩ := fun g j hg => World.cell?_of_block (hk g hg)
  refine ⟨fun j v hv => ?_, fun j v hv => ?_, fun j v hv => ?_, ?_, ?_, hs⟩
  · rw [e 0 _ (by omega)]; exact h.words j v hv
  · rw [e 1 _ (by omega)]; exact h.marks j v hv
  · rw [e 2 _ (by omega)]; exact h.infx j v hv
  · rw [e 7 0 (by omega)]; exact h.err7
  · rw [e 6 0 (by omega)]; exact h.err6
/-- between two rounds: n the heap's size at the call's beginning -/
structure Iv (n : Nat) (w : World) (tk : Nat → Tk) (pre : List (Nat × Int)) (W : World) : Prop where
  os : W.os = w.os
  output : W.output = w.output
  size : n + 4 ≤ W.heap.size
  old : ∀ i, i < n → W.heap[i]? = w.heap[i]?
  res : W.heap[n]? = some (.cells #[.bool false, .int .i64 0, .slice none 0 0] 24 (0, 0))
  box : W.heap[n + 3]? = some (.cells #[.pointer (some ⟨n + 1, 0, none⟩)] 59 (0, 0))
  row : ∃ v, W.heap[n + 2]? = some (.cells #[v] 22 (0, 0)) ∧ W.ownsRow (n + 4) 33 6 v pre.length (pre.flatMap (tcs tk))
theorem Iv.kb {n : Nat} {w : World} {tk : Nat → Tk} {pre : List (Nat × Int)} {W W' : World} (h : Iv n w tk pre W) (hk : Kb (n + 1) W W') : Iv n w tk pre W' := by
  have hs := h.size
  obtain ⟨v, hv, hr⟩ := h.row
  exact ⟨hk.os.trans h.os, hk.output.trans h.output, Nat.le_trans hs hk.size, fun i hi => (hk.block i (by omega) (by omega)).trans (h.old i hi), (hk.block n (by omega) (by omega)).trans h.res,
    (hk.block (n + 3) (by omega) (by omega)).trans h.box, v, (hk.block (n + 2) (by omega) (by omega)).trans hv, rowKb hr hk (by omega)⟩
theorem Iv.own (n : Nat) (w : World) (tk : Nat → Tk) : OwnFrom (n + 4) (Iv n w tk) := by
  intro pre W W' row h hg hr
  have hs := h.size
  obtain ⟨v, hv, hrow⟩ := h.row
  have hb : ∀ i, i < n + 4 → W'.heap[i]? = W.heap[i]? := fun i hi => hg.block i (by omega) (fun e => by have := (hr i e.symm).1; omega)
  refine ⟨hg.os.trans h.os, hg.output.trans h.output, Nat.le_trans hs hg.size, fun i hi => (hb i (by omega)).trans (h.old i hi), (hb n (by omega)).trans h.res, (hb (n + 3) (by omega)).trans h.box, v, (hb (n + 2) (by omega)).trans hv, ?_⟩
  refine rowBlk hrow (fun g e => ?_)
  obtain ⟨_, hlt⟩ := hrow.lt g e
  refine hg.block g hlt (fun e2 => ?_)
  obtain ⟨_, o, ho, hc⟩ := hr g e2.symm
  rcases hrow.2 with ⟨rfl, _⟩ | ⟨g', cap, cur, e3, _, e4, _⟩
  · cases e
  · rw [e3] at e
    cases e
    rw [e4] at ho
    cases ho
    cases hc
theorem Iv.gd {n : Nat} {w : World} {tk : Nat → Tk} {pre : List (Nat × Int)} {W : World} (h : Iv n w tk pre W) (hg : Gd w) (hn : n = w.heap.size) : Gd W := by
  have := hg.size
  have hs := h.size
  exact hg.blk (fun i hi => h.old i (by omega)) (by omega)
def st3 (W : World) (n : Nat) (a b c : Value) : World := (((W.setCell ⟨n, 0, none⟩ a).setCell ⟨n, 1, none⟩ b).setCell ⟨n, 2, none⟩ c)
theorem st3_heap {W : World} {n : Nat} {x y z : Value} (h : W.heap[n]? = some (.cells #[x, y, z] 24 (0, 0))) (a b c : Value) : (st3 W n a b c).heap[n]? = some (.cells #[a, b, c] 24 (0, 0)) := by
  simp [st3, World.setCell, Array.getElem?_modify, h]
theorem st3_other {W : World} {n : Nat} (a b c : Value) (i : Nat) (hi : i ≠ n) : (st3 W n a b c).heap[i]? = W.heap[i]? := by
  unfold st3
  rw [Below.heap_setCell _ _ _ _ hi, Below.heap_setCell _ _ _ _ hi, Below.heap_setCell _ _ _ _ hi]
/-- what the answer is -/
def scanV (e : Nat) (st : Bool) (v : Value) : Value := if st then .agg #[.bool false, .int .i64 e, .slice none 0 0] else .agg #[.bool true, .int .i64 0, v]
theorem infoTok : (Tryd.prog.info? 33).map (fun i => (i.zero, i.size, i.bytes)) = some (some (.agg #[.int .i64 0, .int .i64 0, .int .i64 0, .int .i64 0, .int .i64 0, .string ⟨#[]⟩]), 6, 56) := by kernel_rfl
set_option maxRecDepth 100000 in
set_option maxHeartbeats 2000000 in
theorem impl_scan (T : ByteArray) (L : List UInt8) (hT : T.data.toList = L) (hlen : T.size ≤ 65536) (tk : Nat → Tk) (ok : TkOk L tk) (xs : List (Nat × Int)) (e : Nat) (st : Bool) (hrun : Run L tk (bl L 0) 1 xs e st) (w : World) (hg : Gd w)
    (htok : ∀ B, 8 ≤ B → TokC B T L tk) (hxl : xs.length ≤ 65536) :
    Calls Tryd.prog 6 #[.string T] w fun en w' => w.keptBut w' (fun _ => False) ∧ ∃ v, en = .returned (scanV e st v) ∧ (st = false → w'.ownsRow w.heap.size 33 6 v xs.length (xs.flatMap (tcs tk))) := by
  have hI : ¬ (65536 : Int) < (T.size : Int) := by omega
  have h9 := hg.size
  have HTO := fun W => impl_tokens (w.heap.size + 1) W
  refine (callsIn_wide (n := 3)).1 ?_
  refine callsIn_of_wp_marks Tryd.func6 rfl trivial ?_ rfl
  simp only [Tryd.ntmps6, List.size_toArray, List.length_cons, List.length_nil, Nat.reduceAdd, Nat.reduceSub, Array.replicate_succ, Array.replicate_zero, List.push_toArray, List.append_toArray, List.nil_append, List.cons_append]
  gi_wp2_with fail
  refine ⟨trivial, (callsIn_wide.2 (HTO _)).mono ?_⟩
  rintro en w4 ⟨rfl, hw4⟩
  gi_wp2_with fail
  rw [← hw4]
  have hsz : w4.heap.size = w.heap.size + 4 := by rw [hw4]; simp
  have hst : Iv w.heap.size w tk [] w4 := by
    refine ⟨by rw [hw4]; rfl, by rw [hw4]; rfl, by omega, fun i hi => ?_, ?_, ?_, .slice none 0 0, ?_, World.ownsRow_nil _ _ _ _⟩
    · rw [hw4, Below.heap_alloc _ _ _ (by simp; omega), Below.heap_alloc _ _ _ (by simp; omega), Below.heap_alloc _ _ _ (by simp; omega), Below.heap_alloc _ _ _ hi]
    · rw [hw4, Below.heap_alloc _ _ _ (by simp; omega), Below.heap_alloc _ _ _ (by simp; omega), Below.heap_alloc _ _ _ (by simp)]; exact World.alloc_heap_new _ _
    · rw [hw4]
      have := World.alloc_heap_new (((w.alloc (Obj.cells #[Value.bool false, Value.int IntKind.i64 0, Value.slice none 0 0] 24)).alloc (Obj.cells #[Value.string T, Value.int IntKind.i64 0, Value.int IntKind.i64 1, Value.bool false] 42)).alloc (Obj.cells #[Value.slice none 0 0] 22)) (Obj.cells #[Value.pointer (some { block := w.heap.size + 1, off := 0 })] 59)
      simpa using this
    · rw [hw4, Below.heap_alloc _ _ _ (by simp)]
      have := World.alloc_heap_new ((w.alloc (Obj.cells #[Value.bool false, Value.int IntKind.i64 0, Value.slice none 0 0] 24)).alloc (Obj.cells #[Value.string T, Value.int IntKind.i64 0, Value.int IntKind.i64 1, Value.bool false] 42)) (Obj.cells #[Value.slice none 0 0] 22)
      simpa using this
  have hsb : Sb (w.heap.size + 1) T 0 1 false w4 := by
    unfold Sb
    rw [hw4, Below.heap_alloc _ _ _ (by simp), Below.heap_alloc _ _ _ (by simp)]
    have := World.alloc_heap_new (w.alloc (Obj.cells #[Value.bool false, Value.int IntKind.i64 0, Value.slice none 0 0] 24)) (Obj.cells #[Value.string T, Value.int IntKind.i64 0, Value.int IntKind.i64 1, Value.bool false] 42)
    simpa using this
  clear hw4 HTO
  refine wpIn_rangeFunc_st (α := Nat × Int) (n := 3) (by omega) (gf := 38) (lb := #[.pointer (some ⟨w.heap.size + 1 + 1 + 1, 0, none⟩)]) rfl (enters_of Tryd.func38 (by kernel_rfl) rfl) (encs := fun x => #[tkV tk x]) (fun _ => rfl)
    (w.heap.size + 1) (by omega) xs (fun W => ∃ l, Sb (w.heap.size + 1) T e l st W) (Iv w.heap.size w tk) (by rw [hsz]; exact Iv.own _ _ _) (fun _ _ _ h hk => h.kb hk) hst ?E ?iter (fun x => .cells (tcs tk x).toArray 33)
    (fun x bx => { tmps := #[.string T, undef, .pointer (some ⟨w.heap.size, 0, none⟩), .pointer (some ⟨w.heap.size + 1, 0, none⟩), .pointer (some ⟨w.heap.size + 1 + 1, 0, none⟩), .pointer (some ⟨bx, 0, none⟩), .string T,
      .int .i64 (T.size : Int), .bool false, undef, .string T, .agg #[.string T, .int .i64 0], .agg #[.string T, .int .i64 0, .int .i64 1, .bool false],
      .func (.func 38) #[] #[.pointer (some ⟨w.heap.size + 1 + 1 + 1, 0, none⟩)], tkV tk x, undef, undef, undef, undef, undef, undef, undef, undef, undef, undef, undef, undef], defers := [] }) ?assign ?body ?done
  case E =>
    rintro W lp o' hl ⟨l, h⟩
    exact ⟨l, (World.putObj_heap_other (by omega)).trans h⟩
  case iter =>
    intro lp J W hb hJ hJI hY hJ0
    refine (iter_in 2 (by omega) lp (w.heap.size + 1 + 1 + 1) (w.heap.size + 1) T L hT hlen tk ok (htok _ (by omega)) (by omega) xs J hJ ?_ hY e st hrun W (hsb.below hb (Nat.le_refl _)) hJ0)
    intro pre W hj
    have hi := hJI pre W hj
    refine ⟨?_, hi.gd hg rfl⟩
    have := hi.box
    simp [World.cell?, this]
  case assign =>
    intro l x W K hK
    unfold tkV tokV at *
    gi_wp2
    exact hK
  case body =>
    intro l pre x bx W hpl hi hbx hW
    obtain ⟨v, hv, hrow⟩ := hi.row
    obtain ⟨i0, hi0, hz0, hz1, hz2⟩ := info_parts infoTok
    have HI0 : Hid (Tryd.prog.info? 33 = some i0) := hi0
    have hW' : W.heap[bx]? = some (.cells #[.int .i64 (tk x.1).kind, .int .i64 x.1, .int .i64 (tk x.1).to, .int .i64 x.2, .int .i64 (tk x.1).num, .string (tk x.1).text] 33 (0, 0)) := hW
    have c4 : W.cell? ⟨w.heap.size + 1 + 1, 0, none⟩ = some v := by simp [World.cell?, hv]
    have t0 : W.cell? ⟨bx, 0, none⟩ = some (.int .i64 (tk x.1).kind) := by simp [World.cell?, hW']
    have t1 : W.cell? ⟨bx, 1, none⟩ = some (.int .i64 x.1) := by simp [World.cell?, hW']
    have t2 : W.cell? ⟨bx, 2, none⟩ = some (.int .i64 (tk x.1).to) := by simp [World.cell?, hW']
    have t3 : W.cell? ⟨bx, 3, none⟩ = some (.int .i64 x.2) := by simp [World.cell?, hW']
    have t4 : W.cell? ⟨bx, 4, none⟩ = some (.int .i64 (tk x.1).num) := by simp [World.cell?, hW']
    have t5 : W.cell? ⟨bx, 5, none⟩ = some (.string (tk x.1).text) := by simp [World.cell?, hW']
    have h1c : ∀ u ∈ [(.int .i64 (tk x.1).kind : Value), .int .i64 x.1, .int .i64 (tk x.1).to, .int .i64 x.2, .int .i64 (tk x.1).num, .string (tk x.1).text], u.oneCell' = true := by intro u hu; simp at hu; rcases hu with rfl | rfl | rfl | rfl | rfl | rfl <;> rfl
    have howna : ∀ o : Obj, (W.alloc o).ownsRow (w.heap.size + 4) 33 6 v pre.length (pre.flatMap (tcs tk)) := fun o => hrow.alloc o
    have hsW := hi.size
    have hpb : pre.length + 1 ≤ 65536 := by omega
    have behind : ∀ (o : Obj) (v' : Value) (w1 : World), w1.ownsRow (w.heap.size + 4) 33 6 v' (pre.length + 1) (pre.flatMap (tcs tk) ++ [.int .i64 (tk x.1).kind, .int .i64 x.1, .int .i64 (tk x.1).to, .int .i64 x.2, .int .i64 (tk x.1).num, .string (tk x.1).text]) → (W.alloc o).grownBy w1 v.ownBlock →
        w1.cell? ⟨w.heap.size + 1 + 1, 0, none⟩ = some v ∧ w1.frozen? ⟨w.heap.size + 1 + 1, 0, none⟩ = false ∧
        bodyEnd w4.heap.size (w.heap.size + 1) (Iv w.heap.size w tk) (pre ++ [x]) W .normal { tmps := #[], defers := [] } (w1.setCell ⟨w.heap.size + 1 + 1, 0, none⟩ v') := by
      intro o v' w1 ho hgr
      have hblk : ∀ i, i < w.heap.size + 4 → w1.heap[i]? = W.heap[i]? := fun i hi4 => by
        refine (hgr.block i (by simp; omega) (fun e2 => ?_)).trans (Below.heap_alloc _ _ _ (by omega))
        have := (hrow.lt i e2.symm).1
        omega
      have hf : w1.heap[w.heap.size + 2]? = some (.cells #[v] 22 (0, 0)) := (hblk _ (by omega)).trans hv
      have hse : ∀ i, i ≠ w.heap.size + 2 → (w1.setCell ⟨w.heap.size + 1 + 1, 0, none⟩ v').heap[i]? = w1.heap[i]? := fun i hne => Below.heap_setCell w1 _ _ _ hne
      refine ⟨by simp [World.cell?, hf], by simp [World.frozen?, hf], ⟨?_, ?_⟩, ?_, ?_⟩
      · have := hgr.size; simp at this ⊢; omega
      · intro k o2 hk hko hc
        rw [hse k (by omega)]
        refine (hgr.block k (by have := (Array.getElem?_eq_some_iff.1 hko).1; simp; omega) (fun e2 => ?_)).trans ((Below.heap_alloc _ _ _ (Array.getElem?_eq_some_iff.1 hko).1).trans hko)
        rcases hrow.2 with ⟨rfl, _⟩ | ⟨g', cap, cur, e3, _, e4, _⟩
        · cases e2
        · rw [e3] at e2
          cases e2
          rw [e4] at hko
          cases hko
          cases hc
      · refine ⟨hgr.os.trans hi.os, hgr.output.trans hi.output, ?_, fun i hi2 => ?_, ?_, ?_, v', ?_, ?_⟩
        · have := hgr.size; simp at this ⊢; omega
        · rw [hse i (by omega)]; exact (hblk i (by omega)).trans (hi.old i hi2)
        · rw [hse _ (by omega)]; exact (hblk _ (by omega)).trans hi.res
        · rw [hse _ (by omega)]; exact (hblk _ (by omega)).trans hi.box
        · simp [World.setCell, Array.getElem?_modify, hf]
        · rw [List.length_append, List.flatMap_append]
          refine rowBlk (W := w1) (by simpa [tcs] using ho) (fun g' e2 => hse g' ?_)
          have := (ho.lt g' e2).1
          omega
      · rw [hse _ (by omega)]; exact hblk _ (by omega)
    have HBH : Hid (∀ (o : Obj) (v' : Value) (w1 : World), w1.ownsRow (w.heap.size + 4) 33 6 v' (pre.length + 1) (pre.flatMap (tcs tk) ++ [.int .i64 (tk x.1).kind, .int .i64 x.1, .int .i64 (tk x.1).to, .int .i64 x.2, .int .i64 (tk x.1).num, .string (tk x.1).text]) → (W.alloc o).grownBy w1 v.ownBlock →
        w1.cell? ⟨w.heap.size + 1 + 1, 0, none⟩ = some v ∧ w1.frozen? ⟨w.heap.size + 1 + 1, 0, none⟩ = false ∧
        bodyEnd w4.heap.size (w.heap.size + 1) (Iv w.heap.size w tk) (pre ++ [x]) W .normal { tmps := #[], defers := [] } (w1.setCell ⟨w.heap.size + 1 + 1, 0, none⟩ v')) := behind
    clear behind hW hW' hv hrow hi hst hsb hrun ok htok hg hT hi0
    gi_wp2_with (gi_at_builtin; refine wpListIn_append_own _ rfl (.tmp 15) (.tmp 17) 22 rfl (w.heap.size + 4) 33 i0 (.agg #[.int .i64 0, .int .i64 0, .int .i64 0, .int .i64 0, .int .i64 0, .string ⟨#[]⟩]) 6 56 Tryd.underlying22 HI0 hz0 hz1 hz2 rfl (by decide) _ _ _ rfl (howna _) ⟨W.heap.size, 0, none⟩ 1 1 [.int .i64 (tk x.1).kind, .int .i64 x.1, .int .i64 (tk x.1).to, .int .i64 x.2, .int .i64 (tk x.1).num, .string (tk x.1).text] rfl rfl (qr_cells W #[.int .i64 (tk x.1).kind, .int .i64 x.1, .int .i64 (tk x.1).to, .int .i64 x.2, .int .i64 (tk x.1).num, .string (tk x.1).text] 33 _ rfl) h1c (by unfold maxLen; omega) (by omega) (by simp; omega) ?_; intro v' w1 hown1 hgrow1 _; obtain ⟨g', cap', rfl⟩ := ownsRow_succ hown1; obtain ⟨d4, z4, hfin⟩ := HBH _ _ _ hown1 hgrow1; clear HBH hown1 hgrow1 c4)
    exact hfin
  case done =>
    rintro D W hD hi ⟨l, hS⟩ hK
    obtain ⟨v, hv, hrow⟩ := hi.row
    have hres := hi.res
    have c3 := hS.c3
    have c1 := hS.c1
    have c4 : W.cell? ⟨w.heap.size + 1 + 1, 0, none⟩ = some v := by simp [World.cell?, hv]
    have r0 : W.cell? ⟨w.heap.size, 0, none⟩ = some (.bool false) := by simp [World.cell?, hres]
    have r1 : W.cell? ⟨w.heap.size, 1, none⟩ = some (.int .i64 0) := by simp [World.cell?, hres]
    have r2 : W.cell? ⟨w.heap.size, 2, none⟩ = some (.slice none 0 0) := by simp [World.cell?, hres]
    have q0 : W.frozen? ⟨w.heap.size, 0, none⟩ = false := by simp [World.frozen?, hres]
    have q1 : W.frozen? ⟨w.heap.size, 1, none⟩ = false := by simp [World.frozen?, hres]
    have q2 : W.frozen? ⟨w.heap.size, 2, none⟩ = false := by simp [World.frozen?, hres]
    have hsW := hi.size
    have HFIN : Hid (∀ W5 : World, W5.os = W.os → W5.output = W.output → W5.heap.size = W.heap.size → (∀ i, i ≠ w.heap.size → W5.heap[i]? = W.heap[i]?) →
        w.keptBut (W5.putObj D (.deferred none)) (fun _ => False) ∧ (W5.putObj D (.deferred none)).ownsRow w.heap.size 33 6 v xs.length (xs.flatMap (tcs tk))) :=
      (fun W5 h1 h2 h3 h4 => by
        constructor
        · have hkb : Kb W5.heap.size w (W5.putObj D (.deferred none)) := by
            refine ⟨h1.trans hi.os, h2.trans hi.output, by simp; omega, fun i hi2 _ => ?_⟩
            rw [World.putObj_heap_other (by omega), h4 i (by omega)]
            exact hi.old i hi2
          exact hkb.kept (by omega)
        · refine rowBlk (W := W) (ownsRow_mono' hrow (by omega)) (fun g' e2 => ?_)
          have h5 := (hrow.lt g' e2).1
          have hne : g' ≠ D := fun e3 => by
            subst e3
            rcases hrow.2 with ⟨rfl, _⟩ | ⟨g2, cap, cur, e3, _, e4, _⟩
            · cases e2
            · rw [e3] at e2; cases e2; rw [e4] at hK; cases hK
          rw [World.putObj_heap_other hne, h4 g' (by omega)] : ∀ W5 : World, W5.os = W.os → W5.output = W.output → W5.heap.size = W.heap.size → (∀ i, i ≠ w.heap.size → W5.heap[i]? = W.heap[i]?) →
        w.keptBut (W5.putObj D (.deferred none)) (fun _ => False) ∧ (W5.putObj D (.deferred none)).ownsRow w.heap.size 33 6 v xs.length (xs.flatMap (tcs tk)))
    cases st with
    | true =>
      clear hi hv hrow hrun ok htok hg hT hst hsb hS
      gi_wp2_with fail
      obtain ⟨W5, hW5⟩ : ∃ W5, W5 = st3 W w.heap.size (.bool false) (.int .i64 (e : Int)) (.slice none 0 0) := ⟨_, rfl⟩
      have h5 : W5.heap[w.heap.size]? = some (.cells #[.bool false, .int .i64 (e : Int), .slice none 0 0] 24 (0, 0)) := by rw [hW5]; exact st3_heap hres _ _ _
      have hK5 : W5.heap[D]? = some (.deferred (some [])) := by rw [hW5, st3_other _ _ _ _ (by omega)]; exact hK
      have hF5 := HFIN W5 (by rw [hW5]; rfl) (by rw [hW5]; rfl) (by rw [hW5]; simp [st3]) (fun i hi => by rw [hW5]; exact st3_other _ _ _ i hi)
      have hW5' : (((W.setCell ⟨w.heap.size, 0, none⟩ (.bool false)).setCell ⟨w.heap.size, 1, none⟩ (.int .i64 (e : Int))).setCell ⟨w.heap.size, 2, none⟩ (.slice none 0 0)) = W5 := hW5.symm
      rw [hW5']
      have g0 : (W5.putObj D (.deferred none)).cell? ⟨w.heap.size, 0, none⟩ = some (.bool false) := by
        rw [World.cell?_of_block (w := W5) (World.putObj_heap_other (by show w.heap.size ≠ D; omega))]; simp [World.cell?, h5]
      have g1 : (W5.putObj D (.deferred none)).cell? ⟨w.heap.size, 1, none⟩ = some (.int .i64 (e : Int)) := by
        rw [World.cell?_of_block (w := W5) (World.putObj_heap_other (by show w.heap.size ≠ D; omega))]; simp [World.cell?, h5]
      have g2 : (W5.putObj D (.deferred none)).cell? ⟨w.heap.size, 2, none⟩ = some (.slice none 0 0) := by
        rw [World.cell?_of_block (w := W5) (World.putObj_heap_other (by show w.heap.size ≠ D; omega))]; simp [World.cell?, h5]
      refine ⟨by simp, .inl ⟨_, _, rfl, run_takeDeferred hK5, ?_⟩⟩
      refine ⟨_, by simp [results, Tryd.results6, go_sem, g0, g1, g2]; rfl, ?_⟩
      exact ⟨hF5.1, .slice none 0 0, rfl, fun h => by cases h⟩
    | false =>
      have hsh : ∃ (ad : Option Addr) (nn cap : Nat), v = .slice ad nn cap := by
        rcases hrow.2 with ⟨h1, _⟩ | ⟨g2, cap, cur, e3, _⟩
        · exact ⟨none, 0, 0, h1⟩
        · exact ⟨_, _, _, e3⟩
      obtain ⟨ad, nn, cap, rfl⟩ := hsh
      clear hi hv hrow hrun ok htok hg hT hst hsb hS
      gi_wp2_with fail
      obtain ⟨W5, hW5⟩ : ∃ W5, W5 = st3 W w.heap.size (.bool true) (.int .i64 0) (.slice ad nn cap) := ⟨_, rfl⟩
      have h5 : W5.heap[w.heap.size]? = some (.cells #[.bool true, .int .i64 0, .slice ad nn cap] 24 (0, 0)) := by rw [hW5]; exact st3_heap hres _ _ _
      have hK5 : W5.heap[D]? = some (.deferred (some [])) := by rw [hW5, st3_other _ _ _ _ (by omega)]; exact hK
      have hF5 := HFIN W5 (by rw [hW5]; rfl) (by rw [hW5]; rfl) (by rw [hW5]; simp [st3]) (fun i hi => by rw [hW5]; exact st3_other _ _ _ i hi)
      have hW5' : (((W.setCell ⟨w.heap.size, 0, none⟩ (.bool true)).setCell ⟨w.heap.size, 1, none⟩ (.int .i64 0)).setCell ⟨w.heap.size, 2, none⟩ (.slice ad nn cap)) = W5 := hW5.symm
      rw [hW5']
      have g0 : (W5.putObj D (.deferred none)).cell? ⟨w.heap.size, 0, none⟩ = some (.bool true) := by
        rw [World.cell?_of_block (w := W5) (World.putObj_heap_other (by show w.heap.size ≠ D; omega))]; simp [World.cell?, h5]
      have g1 : (W5.putObj D (.deferred none)).cell? ⟨w.heap.size, 1, none⟩ = some (.int .i64 0) := by
        rw [World.cell?_of_block (w := W5) (World.putObj_heap_other (by show w.heap.size ≠ D; omega))]; simp [World.cell?, h5]
      have g2 : (W5.putObj D (.deferred none)).cell? ⟨w.heap.size, 2, none⟩ = some (.slice ad nn cap) := by
        rw [World.cell?_of_block (w := W5) (World.putObj_heap_other (by show w.heap.size ≠ D; omega))]; simp [World.cell?, h5]
      refine ⟨by simp, .inl ⟨_, _, rfl, run_takeDeferred hK5, ?_⟩⟩
      refine ⟨_, by simp [results, Tryd.results6, go_sem, g0, g1, g2]; rfl, ?_⟩
      exact ⟨hF5.1, .slice ad nn cap, rfl, hF5.2⟩
end Go.Proofs.YtogenhnonjkanaaDoor
