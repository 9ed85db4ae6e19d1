import Derived.Test.YtjggnnmnegcpjaaGreatDoorMSphe
import Derived.RangeFuncBox
import Derived.Test.YtjggnnmnegcpjaaGreatDoorMSkm
import Derived.Test.YtjggnnmnegcpjaaGreatDoorMSbd
namespace Go.Proofs.YtjggnnmnegcpjaaGreatDoor.Fo
open Go.ChangeShapes Go.WideShapes Go.ChangeAt Go.RowKit Go.Shelf
set_option linter.unusedVariables false
attribute [local go_sem] Oper.semAt_some
/-- the marks of loops that are over -/
def mks (rs : List Nat) : List Deferred := rs.map (fun r => { target := .collected r, args := #[] })
def Mks (b m : Nat) (rs : List Nat) (W : World) : Prop := rs.Nodup ∧ ∀ r, r ∈ rs → b ≤ r ∧ r < m ∧ W.heap[r]? = some (.deferred (some []))
/-- all marks are taken on the way out -/
theorem leaves_marks {F : Fence} {n : Nat} {P : Program} {fn : Func} {tmps : Array Value} {R : Ending → World → Prop} : ∀ (rs : List Nat) (w : World), rs.Nodup → (∀ r, r ∈ rs → w.heap[r]? = some (.deferred (some []))) →
    (∀ w' : World, w'.os = w.os → w'.output = w.output → w'.heap.size = w.heap.size → (∀ k, k ∉ rs → w'.heap[k]? = w.heap[k]?) → LeavesInM F n P fn tmps R [] .returning w') → LeavesInM F n P fn tmps R (mks rs) .returning w := by
  intro rs
  induction rs with
  | nil => intro w _ _ h; exact h w rfl rfl rfl (fun _ _ => rfl)
  | cons r rs ih =>
    intro w hn hr h
    have hr0 := hr r (by simp)
    have hnr : r ∉ rs := (List.nodup_cons.1 hn).1
    refine ⟨by simp, .inl ⟨r, _, rfl, run_takeDeferred hr0, ?_⟩⟩
    refine ih _ (List.nodup_cons.1 hn).2 (fun r' h' => ?_) (fun w' h1 h2 h3 h4 => h w' h1 h2 (by rw [h3]; simp) (fun k hk => ?_))
    · rw [World.putObj_heap_other (fun e : r' = r => hnr (e ▸ h'))]; exact hr r' (by simp [h'])
    · rw [h4 k (fun e => hk (by simp [e]))]
      exact World.putObj_heap_other (fun e => hk (by simp [e]))
/-- between two rounds over the forms: N the heap's size as the call began; begins lies in block N + 1 -/
structure Ds (w : World) (F : Nat → Gv) (n i : Nat) (W : World) : Prop where
  os : W.os = w.os
  output : W.output = w.output
  size : w.heap.size + 3 ≤ W.heap.size
  old : ∀ k, k < w.heap.size → W.heap[k]? = w.heap[k]?
  res : W.heap[w.heap.size]? = some (.cells #[.int .i64 0] 3 (0, 0))
  box : W.heap[w.heap.size + 2]? = some (.cells #[.slice (some ⟨w.heap.size + 1, 0, none⟩) n n] 36 (0, 0))
  row : ∀ k, k < n → W.cell? ⟨w.heap.size + 1, k, none⟩ = some (.int .i64 (if k < i then bgn F n k else 0))
  fz : ∀ k, W.frozen? ⟨w.heap.size + 1, k, none⟩ = false
theorem Ds.blk {w : World} {F : Nat → Gv} {n i : Nat} {W W' : World} (h : Ds w F n i W) (h1 : W'.os = W.os) (h2 : W'.output = W.output) (h3 : W.heap.size ≤ W'.heap.size) (h4 : ∀ k, k < w.heap.size + 3 → W'.heap[k]? = W.heap[k]?) : Ds w F n i W' :=
  ⟨h1.trans h.os, h2.trans h.output, Nat.le_trans h.size h3, fun k hk => (h4 k (by omega)).trans (h.old k hk), (h4 _ (by omega)).trans h.res, (h4 _ (by omega)).trans h.box,
    fun k hk => (World.cell?_of_block (h4 _ (by show w.heap.size + 1 < _; omega))).trans (h.row k hk), fun k => (World.frozen?_of_block (h4 _ (by show w.heap.size + 1 < _; omega))).trans (h.fz k)⟩
theorem ds_new (w : World) (F : Nat → Gv) (n : Nat) : Ds w F n 0 (((w.alloc (.cells #[.int .i64 0] 3)).alloc (.cells (madeCells #[.int .i64 0] (n * Tryz.t3.size)) 3)).alloc (.cells #[.slice (some ⟨w.heap.size + 1, 0, none⟩) n n] 36)) := by
  refine ⟨rfl, rfl, by simp, fun k hk => ?_, ?_, ?_, fun k hk => ?_, fun k => ?_⟩
  · rw [Below.heap_alloc _ _ _ (by simp; omega), Below.heap_alloc _ _ _ (by simp; omega), Below.heap_alloc _ _ _ hk]
  · rw [Below.heap_alloc _ _ _ (by simp; omega), Below.heap_alloc _ _ _ (by simp)]; exact World.alloc_heap_new _ _
  · have := World.alloc_heap_new ((w.alloc (.cells #[.int .i64 0] 3)).alloc (.cells (madeCells #[.int .i64 0] (n * Tryz.t3.size)) 3)) (.cells #[.slice (some ⟨w.heap.size + 1, 0, none⟩) n n] 36)
    simpa using this
  · rw [if_neg (by omega), World.cell?_alloc_past _ _ _ (by simp)]
    rw [show w.heap.size + 1 = (w.alloc (.cells #[.int .i64 0] 3)).heap.size by simp]
    exact made_cell (w.alloc (.cells #[.int .i64 0] 3)) (.int .i64 0) 3 n rfl k hk
  · rw [World.frozen?_alloc_past _ _ _ (by simp)]
    exact World.frozen?_alloc_at _ _ _ _ (by simp)
/-- within a round: W the world as it began, its heap of size M; the boxes n, f, at, s lie in M .. M + 3 -/
structure Di (w : World) (F : Nat → Gv) (n i : Nat) (rs : List Nat) (M : Nat) (pre : List {j : Nat // j < (F i).q}) (X : World) : Prop where
  ds : Ds w F n i X
  mk2 : Mks (w.heap.size + 3) M rs X
  nb : X.heap[M]? = some (.cells #[.int .i64 (i : Int)] 3 (0, 0))
  ab : ∃ at' : Int, X.heap[M + 1 + 1]? = some (.cells #[.int .i64 at'] 3 (0, 0)) ∧ 0 ≤ at' ∧ at' ≤ (i : Int) ∧ (Ord pre → Bak F n i ((F i).q - pre.length) at')
  size : M + 4 ≤ X.heap.size
theorem Di.blk {w : World} {F : Nat → Gv} {n i : Nat} {rs : List Nat} {M : Nat} {pre : List {j : Nat // j < (F i).q}} {X X' : World} (h : Di w F n i rs M pre X) (hM : w.heap.size + 3 ≤ M) (h1 : X'.os = X.os) (h2 : X'.output = X.output) (h3 : X.heap.size ≤ X'.heap.size) (h4 : ∀ k, k < M + 4 → X'.heap[k]? = X.heap[k]?) : Di w F n i rs M pre X' := by
  obtain ⟨at', a1, a2⟩ := h.ab
  exact ⟨h.ds.blk h1 h2 h3 (fun k hk => h4 k (by omega)), ⟨h.mk2.1, fun r hr => ⟨(h.mk2.2 r hr).1, (h.mk2.2 r hr).2.1, (h4 r (by have := (h.mk2.2 r hr).2.1; omega)).trans (h.mk2.2 r hr).2.2⟩⟩, (h4 _ (by omega)).trans h.nb, ⟨at', (h4 _ (by omega)).trans a1, a2⟩, Nat.le_trans h.size h3⟩
/-- a round has left with the answer -/
structure Dx (w : World) (F : Nat → Gv) (n i : Nat) (rs : List Nat) (M : Nat) (pre : List {j : Nat // j < (F i).q}) (X : World) : Prop where
  os : X.os = w.os
  output : X.output = w.output
  old : ∀ k, k < w.heap.size → X.heap[k]? = w.heap[k]?
  res : X.heap[w.heap.size]? = some (.cells #[.int .i64 (i : Int)] 3 (0, 0))
  mk2 : Mks (w.heap.size + 3) M rs X
  size : M + 4 ≤ X.heap.size
  out : Ord pre → szl F n i = 0
theorem Dx.blk {w : World} {F : Nat → Gv} {n i : Nat} {rs : List Nat} {M : Nat} {pre : List {j : Nat // j < (F i).q}} {X X' : World} (h : Dx w F n i rs M pre X) (hM : w.heap.size + 3 ≤ M) (h1 : X'.os = X.os) (h2 : X'.output = X.output) (h3 : X.heap.size ≤ X'.heap.size) (h4 : ∀ k, k < M + 4 → X'.heap[k]? = X.heap[k]?) : Dx w F n i rs M pre X' :=
  ⟨h1.trans h.os, h2.trans h.output, fun k hk => (h4 k (by omega)).trans (h.old k hk), (h4 _ (by omega)).trans h.res, ⟨h.mk2.1, fun r hr => ⟨(h.mk2.2 r hr).1, (h.mk2.2 r hr).2.1, (h4 r (by have := (h.mk2.2 r hr).2.1; omega)).trans (h.mk2.2 r hr).2.2⟩⟩, Nat.le_trans h.size h3, h.out⟩
theorem set_box {X : World} {b : Nat} {t : TypeId} {u v : Value} (h : X.heap[b]? = some (.cells #[u] t (0, 0))) : (X.setCell ⟨b, 0, none⟩ v).heap[b]? = some (.cells #[v] t (0, 0)) := by
  simp [World.setCell, Array.getElem?_modify, h]
theorem Di.out {w : World} {F : Nat → Gv} {n i : Nat} {rs : List Nat} {M : Nat} {pre : List {j : Nat // j < (F i).q}} {x : {j : Nat // j < (F i).q}} {X : World} (h : Di w F n i rs M pre X) (hM : w.heap.size + 3 ≤ M) (hK : Kn F n) (hi : i < n) (hpl : pre.length < (F i).q) {at' : Int} (ha : X.heap[M + 1 + 1]? = some (.cells #[.int .i64 at'] 3 (0, 0))) (hne : (F i).K x.val ≠ at' - 1) :
    Dx w F n i rs M (pre ++ [x]) (X.setCell ⟨w.heap.size, 0, none⟩ (.int .i64 (i : Int))) := by
  have hse : ∀ k, k ≠ w.heap.size → (X.setCell ⟨w.heap.size, 0, none⟩ (.int .i64 (i : Int))).heap[k]? = X.heap[k]? := fun k hk => Below.heap_setCell X _ _ _ hk
  obtain ⟨at2, a1, a2, a3, a4⟩ := h.ab
  obtain rfl : at2 = at' := by rw [ha] at a1; simpa using a1.symm
  refine ⟨h.ds.os, h.ds.output, fun k hk => (hse k (by omega)).trans (h.ds.old k hk), set_box h.ds.res, ⟨h.mk2.1, fun r hr => ⟨(h.mk2.2 r hr).1, (h.mk2.2 r hr).2.1, (hse r (by have := (h.mk2.2 r hr).1; omega)).trans (h.mk2.2 r hr).2.2⟩⟩, by simpa using h.size, fun ho => ?_⟩
  obtain ⟨o1, o2⟩ := ho.app
  have hx := x.property
  have hb := a4 o1
  rw [show (F i).q - pre.length = x.val + 1 by omega] at hb
  exact hb.out hK hi hne
theorem Di.step {w : World} {F : Nat → Gv} {n i : Nat} {rs : List Nat} {M : Nat} {pre : List {j : Nat // j < (F i).q}} {x : {j : Nat // j < (F i).q}} {X : World} (h : Di w F n i rs M pre X) (hM : w.heap.size + 3 ≤ M) (hK : Kn F n) (hi : i < n) (hz : ∀ k, k < i → szl F n k ≠ 0) (hpl : pre.length < (F i).q) {at' : Int} (ha : X.heap[M + 1 + 1]? = some (.cells #[.int .i64 at'] 3 (0, 0))) (hne : (F i).K x.val = at' - 1) :
    Di w F n i rs M (pre ++ [x]) (X.setCell ⟨M + 1 + 1, 0, none⟩ (.int .i64 (bgn F n ((F i).K x.val).toNat))) := by
  have hse : ∀ k, k ≠ M + 1 + 1 → (X.setCell ⟨M + 1 + 1, 0, none⟩ (.int .i64 (bgn F n ((F i).K x.val).toNat))).heap[k]? = X.heap[k]? := fun k hk => Below.heap_setCell X _ _ _ hk
  obtain ⟨at2, a1, a2, a3, a4⟩ := h.ab
  obtain rfl : at2 = at' := by rw [ha] at a1; simpa using a1.symm
  have hx := x.property
  have hkq := hK i hi x.val hx
  have hs := szl_in hK n (Nat.le_refl _) ((F i).K x.val).toNat
  have hz' := hz ((F i).K x.val).toNat (by omega)
  refine ⟨h.ds.blk rfl rfl (by simp) (fun k hk => hse k (by omega)), ⟨h.mk2.1, fun r hr => ⟨(h.mk2.2 r hr).1, (h.mk2.2 r hr).2.1, (hse r (by have := (h.mk2.2 r hr).2.1; omega)).trans (h.mk2.2 r hr).2.2⟩⟩, (hse _ (by omega)).trans h.nb, ⟨_, set_box a1, ?_, ?_, fun ho => ?_⟩, by simpa using h.size⟩
  · unfold bgn; omega
  · unfold bgn; omega
  · obtain ⟨o1, o2⟩ := ho.app
    have hb := a4 o1
    rw [show (F i).q - pre.length = x.val + 1 by omega] at hb
    rw [List.length_append, List.length_cons, List.length_nil, show (F i).q - (pre.length + (0 + 1)) = x.val by omega]
    exact hb.step hK hi hx hz hne
theorem own_di {w : World} {F : Nat → Gv} {n i : Nat} {rs : List Nat} {M : Nat} (hM : w.heap.size + 3 ≤ M) : OwnFrom (M + 4) (Di w F n i rs M) := fun pre X X' row h hg hr =>
  h.blk hM hg.os hg.output hg.size (fun k hk => hg.block k (by have := h.size; omega) (fun e => by have := (hr k e.symm).1; omega))
theorem own_dx {w : World} {F : Nat → Gv} {n i : Nat} {rs : List Nat} {M : Nat} (hM : w.heap.size + 3 ≤ M) (c : Code) : OwnFrom (M + 4) (fun pre X => c = .ret ∧ Dx w F n i rs M pre X) := fun pre X X' row h hg hr =>
  ⟨h.1, h.2.blk hM hg.os hg.output hg.size (fun k hk => hg.block k (by have := h.2.size; omega) (fun e => by have := (hr k e.symm).1; omega))⟩
theorem di_new {w W : World} {F : Nat → Gv} {n i : Nat} {rs : List Nat} (hd : Ds w F n i W) (hm : Mks (w.heap.size + 3) W.heap.size rs W) (o : Obj) (s : Obj) :
    Di w F n i rs W.heap.size [] ((((W.alloc (.cells #[.int .i64 (i : Int)] 3)).alloc o).alloc (.cells #[.int .i64 (i : Int)] 3)).alloc s) := by
  have hk : ∀ k, k < W.heap.size → ((((W.alloc (.cells #[.int .i64 (i : Int)] 3)).alloc o).alloc (.cells #[.int .i64 (i : Int)] 3)).alloc s).heap[k]? = W.heap[k]? := fun k hk => by
    rw [Below.heap_alloc _ _ _ (by simp; omega), Below.heap_alloc _ _ _ (by simp; omega), Below.heap_alloc _ _ _ (by simp; omega), Below.heap_alloc _ _ _ hk]
  have hs := hd.size
  refine ⟨hd.blk rfl rfl (by simp; omega) (fun k h => hk k (by omega)), ⟨hm.1, fun r hr => ⟨(hm.2 r hr).1, (hm.2 r hr).2.1, (hk r (hm.2 r hr).2.1).trans (hm.2 r hr).2.2⟩⟩, ?_, ⟨(i : Int), ?_, by omega, by omega, fun _ => Bak.start F n i⟩, by simp⟩
  · rw [Below.heap_alloc _ _ _ (by simp; omega), Below.heap_alloc _ _ _ (by simp; omega), Below.heap_alloc _ _ _ (by simp)]; exact World.alloc_heap_new _ _
  · rw [Below.heap_alloc _ _ _ (by simp)]
    have := World.alloc_heap_new ((W.alloc (.cells #[.int .i64 (i : Int)] 3)).alloc o) (.cells #[.int .i64 (i : Int)] 3)
    simpa using this
/-- a round is over -/
theorem Di.next {w : World} {F : Nat → Gv} {n i : Nat} {rs : List Nat} {M : Nat} {xs : List {j : Nat // j < (F i).q}} {X : World} (h : Di w F n i rs M xs X) (hM : w.heap.size + 3 ≤ M) (hK : Kn F n) (hi : i < n) (ho : Ord xs) (hl : xs.length = (F i).q) {at' : Int} (ha : X.heap[M + 1 + 1]? = some (.cells #[.int .i64 at'] 3 (0, 0))) {D : Nat} (hD : M + 4 ≤ D) (hx : X.heap[D]? = some (.deferred (some []))) :
    Ds w F n (i + 1) (X.setCell ⟨w.heap.size + 1, i, none⟩ (.int .i64 at')) ∧ Mks (w.heap.size + 3) (X.setCell ⟨w.heap.size + 1, i, none⟩ (.int .i64 at')).heap.size (D :: rs) (X.setCell ⟨w.heap.size + 1, i, none⟩ (.int .i64 at')) ∧ szl F n i ≠ 0 := by
  have hse : ∀ k, k ≠ w.heap.size + 1 → (X.setCell ⟨w.heap.size + 1, i, none⟩ (.int .i64 at')).heap[k]? = X.heap[k]? := fun k hk => Below.heap_setCell X _ _ _ hk
  obtain ⟨at2, a1, a2, a3, a4⟩ := h.ab
  obtain rfl : at2 = at' := by rw [ha] at a1; simpa using a1.symm
  have hb := a4 ho
  rw [hl, Nat.sub_self] at hb
  obtain ⟨b1, b2⟩ := hb.done hK hi
  have hsz := h.size
  have hdl : D < X.heap.size := (Array.getElem?_eq_some_iff.1 hx).1
  refine ⟨⟨h.ds.os, h.ds.output, by simpa using h.ds.size, fun k hk => (hse k (by omega)).trans (h.ds.old k hk), (hse _ (by omega)).trans h.ds.res, (hse _ (by omega)).trans h.ds.box, fun k hk => ?_, fun k => by rw [set_fz]; exact h.ds.fz k⟩, ⟨?_, fun r hr => ?_⟩, b1⟩
  · by_cases e : k = i
    · subst e
      rw [if_pos (by omega), b2]
      exact set_eq _ _ _ _ _ (h.ds.row k hk)
    · rw [set_ne _ _ _ _ _ e, h.ds.row k hk]
      by_cases e2 : k < i
      · rw [if_pos e2, if_pos (by omega)]
      · rw [if_neg e2, if_neg (by omega)]
  · refine List.nodup_cons.2 ⟨fun hr => ?_, h.mk2.1⟩
    have := (h.mk2.2 D hr).2.1
    omega
  · rcases List.mem_cons.1 hr with rfl | hr
    · exact ⟨by omega, by simpa using hdl, (hse _ (by omega)).trans hx⟩
    · have := h.mk2.2 r hr
      exact ⟨this.1, by simp; omega, (hse _ (by omega)).trans this.2.2⟩
end Go.Proofs.YtjggnnmnegcpjaaGreatDoor.Fo
namespace Go.Proofs.YtjggnnmnegcpjaaGreatDoor.Fo
open Go.ChangeShapes Go.WideShapes Go.ChangeAt Go.RowKit Go.Shelf
set_option linter.unusedVariables false
attribute [local go_sem] Oper.semAt_some
set_option maxRecDepth 100000 in
set_option maxHeartbeats 4000000 in
theorem im_disorder {v : Value} {n : Nat} {F : Nat → Gv} (w : World) (hf : RowF w v n F) (h0 : 0 < n) (hn : n ≤ 3000) (hK : Kn F n) (hq : ∀ i, i < n → (F i).q ≤ 1048576) :
    Calls Tryz.prog 47 #[v] w fun e w' => (∃ r : Int, e = .returned (.int .i64 r) ∧ Dis F n r) ∧ w'.os = w.os ∧ w'.output = w.output ∧ w.heap.size ≤ w'.heap.size ∧ ∀ k, k < w.heap.size → w'.heap[k]? = w.heap[k]? := by
  obtain ⟨pf, cf, rfl, hf2⟩ := hf
  obtain ⟨c, rfl, hcc, hrc⟩ := hf2 h0
  have hnI : (n : Int) ≤ 3000 := by omega
  obtain ⟨w0, hw0⟩ : ∃ w0, w0 = w.alloc (.cells #[.int .i64 0] 3) := ⟨_, rfl⟩
  have hmk := run_make (P := Tryz.prog) w0 36 3 Tryz.t3 (.int .i64 0) Tryz.underlying36 (by kernel_rfl) (by kernel_rfl) .i64 .i64 (n : Int) (n : Int) (by omega) (Int.le_refl _) (by show (8 : Int) * (n : Int) ≤ _; omega) (by omega)
  rw [Int.toNat_natCast] at hmk
  obtain ⟨w1, hw1⟩ : ∃ w1, w1 = w0.alloc (.cells (madeCells (.int .i64 0 : Value).cells (n * Tryz.t3.size)) 3) := ⟨_, rfl⟩
  rw [← hw1] at hmk
  have z0 : w0.heap.size = w.heap.size + 1 := by rw [hw0]; simp
  have z1 : w1.heap.size = w.heap.size + 2 := by rw [hw1]; simp [z0]
  rw [z0] at hmk
  obtain ⟨W0, hW0⟩ : ∃ W0, W0 = ((w.alloc (.cells #[.int .i64 0] 3)).alloc (.cells (madeCells #[.int .i64 0] (n * Tryz.t3.size)) 3)).alloc (.cells #[.slice (some ⟨w.heap.size + 1, 0, none⟩) n n] 36) := ⟨_, rfl⟩
  have HD0 : Hid (Ds w F n 0 W0 ∧ Mks (w.heap.size + 3) W0.heap.size [] W0 ∧ ∀ j, j < 0 → szl F n j ≠ 0) := (⟨by rw [hW0]; exact ds_new w F n, ⟨List.nodup_nil, fun r hr => by cases hr⟩, fun j hj => by omega⟩ : _ ∧ _ ∧ _)
  have HRC : Hid ((∀ i, i < n → FormC w (c.add (i * 9)) (F i)) ∧ Kn F n ∧ ∀ i, i < n → (F i).q ≤ 1048576) := (⟨hrc, hK, hq⟩ : _ ∧ _ ∧ _)
  clear hf2 hrc hK hq
  refine (callsIn_wide (n := 3)).1 ?_
  refine callsIn_of_wp_marks Tryz.func47 rfl trivial ?_ rfl
  simp only [Tryz.ntmps47, List.size_toArray, List.length_cons, List.length_nil, Nat.reduceAdd, Nat.reduceSub, Array.replicate_succ, Array.replicate_zero, List.push_toArray, List.append_toArray, List.nil_append, List.cons_append]
  rw [hw0] at hmk
  gi_wp2_with fail
  rw [← hW0]
  clear hW0 hmk hw1 hw0 z0 z1
  refine wpIn_loop (fun a' W => ∃ (i : Nat) (rs : List Nat) (u4 u5 u6 u8 u16 u17 u18 u19 u20 u21 u22 u23 u24 u25 u26 u27 u28 u29 u30 u31 u32 u33 u34 u35 u36 u37 u38 u39 : Value), i ≤ n ∧ a' = { tmps := #[.slice (some c) n cf, undef, .pointer (some ⟨w.heap.size, 0, none⟩), .pointer (some ⟨w.heap.size + 1 + 1, 0, none⟩), u4, u5, u6, undef, u8, undef, .slice (some c) n cf, .int .i64 (n : Int), .slice (some ⟨w.heap.size + 1, 0, none⟩) n n, .slice (some c) n cf, .int .i64 (n : Int), .int .i64 (i : Int), u16, u17, u18, u19, u20, u21, u22, u23, u24, u25, u26, u27, u28, u29, u30, u31, u32, u33, u34, u35, u36, u37, u38, u39, undef, undef, undef, undef, undef, undef, undef, undef, undef], defers := mks rs } ∧ Hid (Ds w F n i W ∧ Mks (w.heap.size + 3) W.heap.size rs W ∧ ∀ j, j < i → szl F n j ≠ 0)) (fun a' _ => n - (intOf (a'.tmps.getD 15 undef)).toNat) ?_ ?_
  · exact ⟨0, [], undef, undef, undef, undef, undef, undef, undef, undef, undef, undef, undef, undef, undef, undef, undef, undef, undef, undef, undef, undef, undef, undef, undef, undef, undef, undef, undef, undef, Nat.zero_le _, rfl, HD0⟩
  rintro a' W ⟨i, rs, u4, u5, u6, u8, u16, u17, u18, u19, u20, u21, u22, u23, u24, u25, u26, u27, u28, u29, u30, u31, u32, u33, u34, u35, u36, u37, u38, u39, hin, rfl, HI⟩
  clear HD0
  obtain ⟨hds, hmks, hz⟩ := (show Ds w F n i W ∧ Mks (w.heap.size + 3) W.heap.size rs W ∧ ∀ j, j < i → szl F n j ≠ 0 from HI)
  obtain ⟨hrc, hK, hq⟩ := (show (∀ i, i < n → FormC w (c.add (i * 9)) (F i)) ∧ Kn F n ∧ ∀ i, i < n → (F i).q ≤ 1048576 from HRC)
  rcases Nat.lt_or_ge i n with hi | hi
  · have hiI : (i : Int) < (n : Int) := by omega
    obtain ⟨vn, vk, hc9, hrn, hrk⟩ := hrc i hi
    obtain ⟨pn, cn, rfl, _⟩ := hrn
    obtain ⟨pk, ck, rfl, hk2⟩ := hrk
    have hl0 := lt_of_cell' hc9.c0
    obtain ⟨e0, e1, e2, e3, e4, e5, e6, e7, e8⟩ := hc9.blk (hds.old _ hl0)
    have HMB := fun W => bwi_make pk (F i).q ck W
    have hM := hds.size
    have hqi := hq i hi
    have HDI : Hid (∀ o s : Obj, Di w F n i rs W.heap.size [] ((((W.alloc (.cells #[.int .i64 (i : Int)] 3)).alloc o).alloc (.cells #[.int .i64 (i : Int)] 3)).alloc s)) := (fun o s => di_new hds hmks o s : ∀ o s : Obj, _)
    have HRK : Hid (RowV w (.slice pk (F i).q ck) (F i).q (fun j => .int .i64 ((F i).K j))) := ⟨pk, ck, rfl, hk2⟩
    have HST : Hid (Kn F n ∧ i < n ∧ (∀ j, j < i → szl F n j ≠ 0) ∧ (F i).q ≤ 1048576 ∧ ∀ k, k < w.heap.size → W.heap[k]? = w.heap[k]?) := (⟨hK, hi, hz, hqi, hds.old⟩ : _ ∧ _ ∧ _ ∧ _ ∧ _)
    clear HI hds hmks hz hrc hK hq hc9 hk2 hl0 hqi
    gi_wp2_with fail
    refine ⟨trivial, (callsIn_wide.2 (HMB _)).mono ?_⟩
    rintro en w4 ⟨rfl, hw4⟩
    gi_wp2_with fail
    clear e0 e1 e2 e3 e4 e5 e6 e7 e8 HMB
    obtain ⟨o5, ho5⟩ : ∃ o5 : Obj, o5 = .cells #[.int .i64 (F i).a.k, .int .i64 (F i).a.f, .int .i64 (F i).a.t, .int .i64 (F i).a.l, .int .i64 (F i).a.o, .int .i64 (F i).a.m, .string (F i).a.x, .slice pn (F i).p cn, .slice pk (F i).q ck] 58 := ⟨_, rfl⟩
    obtain ⟨W4, hW4⟩ : ∃ W4, W4 = ((((W.alloc (.cells #[.int .i64 (i : Int)] 3)).alloc o5).alloc (.cells #[.int .i64 (i : Int)] 3)).alloc (.cells #[.slice pk (F i).q ck] 36)) := ⟨_, rfl⟩
    rw [← ho5, ← hW4]
    clear hw4 w4 ho5
    have z4 : W4.heap.size = W.heap.size + 4 := by rw [hW4]; simp
    have d4 : Di w F n i rs W.heap.size [] W4 := by rw [hW4]; exact (show ∀ o s : Obj, _ from HDI) _ _
    have s4 : W4.cell? ⟨W.heap.size + 1 + 1 + 1, 0, none⟩ = some (.slice pk (F i).q ck) := by
      rw [hW4]
      rw [World.cell?_alloc_at _ _ _ _ (by simp)]; rfl
    have old4 : ∀ k, k < w.heap.size → W4.heap[k]? = w.heap[k]? := d4.ds.old
    clear HDI hW4
    refine wpIn_rangeFunc_ownF (α := {j : Nat // j < (F i).q}) (n := 3) rfl (by omega) (gf := 128) (lb := #[.pointer (some ⟨W.heap.size + 1 + 1 + 1, 0, none⟩)]) rfl trivial (enters_of Tryz.func128 (by kernel_rfl) rfl)
      (encs := fun x => #[.int .i64 (x.val : Int), .int .i64 ((F i).K x.val)]) (Kp := Kp2 w.heap.size (W.heap.size + 1 + 1 + 1)) (bwi_stops 2 (by omega) (W.heap.size + 1 + 1 + 1) w W4 HST.2.2.2.1 HRK old4 (by omega) s4)
      (fun h k => Kp2.trans h k) (fun X l o o' hl _ _ _ => Kp2.put (m := W4.heap.size) (by omega) (by omega) X l o' hl) (Below.refl _ _) (fun _ => rfl)
      (Di w F n i rs W.heap.size) (fun c pre X => c = .ret ∧ Dx w F n i rs W.heap.size pre X) (by rw [z4]; exact own_di hM) (by rw [z4]; exact own_dx hM) d4
      (fun x => { tmps := #[.slice (some c) n cf, undef, .pointer (some ⟨w.heap.size, 0, none⟩), .pointer (some ⟨w.heap.size + 1 + 1, 0, none⟩), .pointer (some ⟨W.heap.size, 0, none⟩), .pointer (some ⟨W.heap.size + 1, 0, none⟩), .pointer (some ⟨W.heap.size + 1 + 1, 0, none⟩), undef, .int .i64 ((F i).K x.val), undef, .slice (some c) n cf, .int .i64 (n : Int), .slice (some ⟨w.heap.size + 1, 0, none⟩) n n, .slice (some c) n cf, .int .i64 (n : Int), .int .i64 (i : Int), .bool true, .int .i64 (i : Int), .pointer (some (c.add (i * 9))), .agg #[.int .i64 (F i).a.k, .int .i64 (F i).a.f, .int .i64 (F i).a.t, .int .i64 (F i).a.l, .int .i64 (F i).a.o, .int .i64 (F i).a.m, .string (F i).a.x, .slice pn (F i).p cn, .slice pk (F i).q ck], .int .i64 (i : Int), .pointer (some ⟨W.heap.size + 1, 8, none⟩), .slice pk (F i).q ck, .func (.func 128) #[] #[.pointer (some ⟨W.heap.size + 1 + 1 + 1, 0, none⟩)], .int .i64 (x.val : Int), .int .i64 ((F i).K x.val), u26, u27, u28, u29, u30, u31, u32, u33, u34, u35, u36, u37, u38, u39, undef, undef, undef, undef, undef, undef, undef, undef, undef], defers := [] }) ?assign ?body ?done ?stop
    case assign =>
      intro l x X K hKK
      gi_wp2
      exact hKK
    case body =>
      intro l pre x X hi2 hpl
      obtain ⟨hK, hi, hz, hqi, _⟩ := (show Kn F n ∧ i < n ∧ (∀ j, j < i → szl F n j ≠ 0) ∧ (F i).q ≤ 1048576 ∧ ∀ k, k < w.heap.size → W.heap[k]? = w.heap[k]? from HST)
      obtain ⟨at', a1, a2, a3, _⟩ := hi2.ab
      have hkx := hK i hi x.val x.property
      have c6 : X.cell? ⟨W.heap.size + 1 + 1, 0, none⟩ = some (.int .i64 at') := by simp [World.cell?, a1]
      have q6 : X.frozen? ⟨W.heap.size + 1 + 1, 0, none⟩ = false := by simp [World.frozen?, a1]
      have c4 : X.cell? ⟨W.heap.size, 0, none⟩ = some (.int .i64 (i : Int)) := by simp [World.cell?, hi2.nb]
      have c3 : X.cell? ⟨w.heap.size + 1 + 1, 0, none⟩ = some (.slice (some ⟨w.heap.size + 1, 0, none⟩) n n) := by simp [World.cell?, hi2.ds.box]
      have c2 : X.cell? ⟨w.heap.size, 0, none⟩ = some (.int .i64 0) := by simp [World.cell?, hi2.ds.res]
      have q2 : X.frozen? ⟨w.heap.size, 0, none⟩ = false := by simp [World.frozen?, hi2.ds.res]
      have hat : at' ≤ 3000 := by omega
      obtain ⟨kx, hkxe⟩ : ∃ kx, kx = (F i).K x.val := ⟨_, rfl⟩
      try dsimp only
      rw [← hkxe] at hkx
      by_cases g : kx = at' - 1
      · obtain ⟨kk, hkk⟩ : ∃ kk : Nat, kx = (kk : Int) := ⟨kx.toNat, by omega⟩
        have g' : ((kk : Int) != at' - 1) = false := by rw [← hkk, g]; simp
        have crow : X.cell? ⟨w.heap.size + 1, kk, none⟩ = some (.int .i64 (bgn F n kk)) := by
          have := hi2.ds.row kk (by omega)
          rw [if_pos (by omega)] at this
          exact this
        have HS : Hid (ownPostK (Kp2 w.heap.size (W.heap.size + 1 + 1 + 1)) (Di w F n i rs W.heap.size) (fun c pre X => c = .ret ∧ Dx w F n i rs W.heap.size pre X) (pre ++ [x]) X .normal { tmps := #[], defers := [] } (X.setCell ⟨W.heap.size + 1 + 1, 0, none⟩ (.int .i64 (bgn F n kk)))) := by
          refine (⟨KeepsOthers.setCell _ _ _, fun k hk => Below.heap_setCell X ⟨W.heap.size + 1 + 1, 0, none⟩ _ k (by show k ≠ W.heap.size + 1 + 1; omega), ?_⟩ : KeepsOthers _ _ ∧ Kp2 w.heap.size (W.heap.size + 1 + 1 + 1) _ _ ∧ Di w F n i rs W.heap.size (pre ++ [x]) _)
          have := hi2.step (x := x) hM hK hi hz hpl a1 (by rw [← hkxe]; exact g)
          rw [← hkxe, hkk] at this
          exact this
        have hkN : (kk : Int) < (n : Int) := by omega
        generalize bgn F n kk = bb at crow HS
        rw [← hkxe, hkk]
        clear hK hz hqi hkx hi2 a1 g hkk hkxe HST HRK d4 s4 old4
        gi_wp2_with fail
        exact HS
      · have g' : (kx != at' - 1) = true := by simpa using g
        have HS : Hid (ownPostK (Kp2 w.heap.size (W.heap.size + 1 + 1 + 1)) (Di w F n i rs W.heap.size) (fun c pre X => c = .ret ∧ Dx w F n i rs W.heap.size pre X) (pre ++ [x]) X .ret { tmps := #[], defers := [] } (X.setCell ⟨w.heap.size, 0, none⟩ (.int .i64 (i : Int)))) :=
          (⟨KeepsOthers.setCell _ _ _, rfl, hi2.out (x := x) hM hK hi hpl a1 (by rw [← hkxe]; exact g)⟩ : _ ∧ _ ∧ _)
        rw [← hkxe]
        clear hK hz hqi hkx hi2 a1 g hkxe HST HRK d4 s4 old4
        gi_wp2_with fail
        exact HS
    case done =>
      rintro D xs X hD ⟨ho, hl⟩ hi2 hx
      obtain ⟨hK, hi, hz, hqi, _⟩ := (show Kn F n ∧ i < n ∧ (∀ j, j < i → szl F n j ≠ 0) ∧ (F i).q ≤ 1048576 ∧ ∀ k, k < w.heap.size → W.heap[k]? = w.heap[k]? from HST)
      obtain ⟨at', a1, a2, a3, _⟩ := hi2.ab
      have nx := hi2.next hM hK hi ho hl a1 (D := D) (by omega) hx
      have c6 : X.cell? ⟨W.heap.size + 1 + 1, 0, none⟩ = some (.int .i64 at') := by simp [World.cell?, a1]
      have c4 : X.cell? ⟨W.heap.size, 0, none⟩ = some (.int .i64 (i : Int)) := by simp [World.cell?, hi2.nb]
      have c3 : X.cell? ⟨w.heap.size + 1 + 1, 0, none⟩ = some (.slice (some ⟨w.heap.size + 1, 0, none⟩) n n) := by simp [World.cell?, hi2.ds.box]
      have crow := hi2.ds.row i hi
      have qrow := hi2.ds.fz i
      rw [if_neg (by omega)] at crow
      have HX : Hid (Ds w F n (i + 1) (X.setCell ⟨w.heap.size + 1, i, none⟩ (.int .i64 at')) ∧ Mks (w.heap.size + 3) (X.setCell ⟨w.heap.size + 1, i, none⟩ (.int .i64 at')).heap.size (D :: rs) (X.setCell ⟨w.heap.size + 1, i, none⟩ (.int .i64 at')) ∧ ∀ j, j < i + 1 → szl F n j ≠ 0) := (⟨nx.1, nx.2.1, fun j hj => by
        by_cases e : j = i
        · rw [e]; exact nx.2.2
        · exact hz j (by omega)⟩ : _ ∧ _ ∧ _)
      clear hK hz hqi hi2 a1 nx HST HRK d4 s4 old4 ho hl
      gi_wp2_with fail
      refine ⟨⟨i + 1, D :: rs, _, _, _, _, _, _, _, _, _, _, _, _, _, _, _, _, _, _, _, _, _, _, _, _, _, _, _, _, by omega, rfl, HX⟩, ?_⟩
      simp [intOf]
      omega
    case stop =>
      rintro D c' pre X hD hSp ⟨rfl, hix⟩ hx
      obtain ⟨hK, hi, hz, hqi, _⟩ := (show Kn F n ∧ i < n ∧ (∀ j, j < i → szl F n j ≠ 0) ∧ (F i).q ≤ 1048576 ∧ ∀ k, k < w.heap.size → W.heap[k]? = w.heap[k]? from HST)
      have HX : Hid (Dx w F n i rs W.heap.size pre X ∧ Dis F n (i : Int)) := (⟨hix, .at i hi hz (hix.out hSp)⟩ : _ ∧ _)
      clear hK hz hqi HST HRK d4 s4 old4
      gi_wp2_with fail
      refine leaves_marks (D :: rs) X ?_ (fun r hr => ?_) (fun w' h1 h2 h3 h4 => ?_)
      · refine List.nodup_cons.2 ⟨fun hr => ?_, hix.mk2.1⟩
        have := (hix.mk2.2 D hr).2.1
        omega
      · rcases List.mem_cons.1 hr with rfl | hr
        · exact hx
        · exact (hix.mk2.2 r hr).2.2
      · have hN : w.heap.size ∉ D :: rs := fun hr => by
          rcases List.mem_cons.1 hr with e | hr
          · omega
          · have := (hix.mk2.2 _ hr).1
            omega
        have hb := (h4 _ hN).trans hix.res
        have g0 : w'.cell? ⟨w.heap.size, 0, none⟩ = some (.int .i64 (i : Int)) := by simp [World.cell?, hb]
        have hsz := hix.size
        refine ⟨_, by simp [results, Tryz.results47, go_sem, g0]; rfl, ?_⟩
        refine ⟨⟨(i : Int), rfl, HX.2⟩, h1.trans hix.os, h2.trans hix.output, by omega, fun k hk => (h4 k (fun hr => ?_)).trans (hix.old k hk)⟩
        rcases List.mem_cons.1 hr with e | hr
        · omega
        · have := (hix.mk2.2 _ hr).1
          omega
  · have ei : i = n := by omega
    rw [ei] at hds hz ⊢
    clear HI HRC hrc hq hin hi ei
    obtain ⟨m, hm⟩ : ∃ m : Nat, m = n - 1 := ⟨_, rfl⟩
    have hm1 : (n : Int) - 1 = (m : Int) := by omega
    have hmI : (m : Int) < (n : Int) := by omega
    have crow := hds.row m (by omega)
    rw [if_pos (by omega)] at crow
    have c3 : W.cell? ⟨w.heap.size + 1 + 1, 0, none⟩ = some (.slice (some ⟨w.heap.size + 1, 0, none⟩) n n) := by simp [World.cell?, hds.box]
    have c2 : W.cell? ⟨w.heap.size, 0, none⟩ = some (.int .i64 0) := by simp [World.cell?, hds.res]
    have q2 : W.frozen? ⟨w.heap.size, 0, none⟩ = false := by simp [World.frozen?, hds.res]
    have hs := szl_in hK n (Nat.le_refl _) m
    have FIN : Hid (∀ r : Int, Dis F n r → ∀ tmps : Array Value, tmps[2]? = some (.pointer (some ⟨w.heap.size, 0, none⟩)) → LeavesInM Fence.wide 3 Tryz.prog Tryz.f47 tmps (fun e w' => (∃ r : Int, e = .returned (.int .i64 r) ∧ Dis F n r) ∧ w'.os = w.os ∧ w'.output = w.output ∧ w.heap.size ≤ w'.heap.size ∧ ∀ k, k < w.heap.size → w'.heap[k]? = w.heap[k]?) (mks rs) .returning (W.setCell ⟨w.heap.size, 0, none⟩ (.int .i64 r))) := (fun r hr tmps ht => by
      have hse : ∀ k, k ≠ w.heap.size → (W.setCell ⟨w.heap.size, 0, none⟩ (.int .i64 r)).heap[k]? = W.heap[k]? := fun k hk => Below.heap_setCell W _ _ _ hk
      refine leaves_marks rs _ hmks.1 (fun r' hr' => (hse r' (by have := (hmks.2 r' hr').1; omega)).trans (hmks.2 r' hr').2.2) (fun w' h1 h2 h3 h4 => ?_)
      have hN : w.heap.size ∉ rs := fun hr => by have := (hmks.2 _ hr).1; omega
      have hb := (h4 _ hN).trans (set_box hds.res)
      have g0 : w'.cell? ⟨w.heap.size, 0, none⟩ = some (.int .i64 r) := by simp [World.cell?, hb]
      have hsz := hds.size
      have h3' : w'.heap.size = W.heap.size := by rw [h3]; simp
      refine ⟨_, by simp [results, Tryz.results47, go_sem, g0, ht]; rfl, ?_⟩
      exact ⟨⟨r, rfl, hr⟩, h1.trans hds.os, h2.trans hds.output, by omega, fun k hk => (h4 k (fun hr => by have := (hmks.2 _ hr).1; omega)).trans ((hse k (by omega)).trans (hds.old k hk))⟩ : ∀ r : Int, _)
    by_cases g : 0 < bgn F n m
    · have hD : Dis F n (m : Int) := by rw [← hm1]; exact .last hz (by rw [← hm]; unfold bgn at g; omega)
      have HF := (show ∀ r : Int, Dis F n r → ∀ tmps : Array Value, _ → _ from FIN) (m : Int) hD
      have HF2 : Hid (∀ tmps : Array Value, tmps[2]? = some (.pointer (some ⟨w.heap.size, 0, none⟩)) → LeavesInM Fence.wide 3 Tryz.prog Tryz.f47 tmps (fun e w' => (∃ r : Int, e = .returned (.int .i64 r) ∧ Dis F n r) ∧ w'.os = w.os ∧ w'.output = w.output ∧ w.heap.size ≤ w'.heap.size ∧ ∀ k, k < w.heap.size → w'.heap[k]? = w.heap[k]?) (mks rs) .returning (W.setCell ⟨w.heap.size, 0, none⟩ (.int .i64 (m : Int)))) := HF
      generalize bgn F n m = bb at g crow
      clear HF FIN hD hm hs hds hmks hz hK
      gi_wp2_with fail
      exact HF2 _ rfl
    · have hD : Dis F n (-1) := .none hz (by rw [← hm]; unfold bgn at g; omega)
      have HF2 : Hid (∀ tmps : Array Value, tmps[2]? = some (.pointer (some ⟨w.heap.size, 0, none⟩)) → LeavesInM Fence.wide 3 Tryz.prog Tryz.f47 tmps (fun e w' => (∃ r : Int, e = .returned (.int .i64 r) ∧ Dis F n r) ∧ w'.os = w.os ∧ w'.output = w.output ∧ w.heap.size ≤ w'.heap.size ∧ ∀ k, k < w.heap.size → w'.heap[k]? = w.heap[k]?) (mks rs) .returning (W.setCell ⟨w.heap.size, 0, none⟩ (.int .i64 (-1)))) := (show ∀ r : Int, Dis F n r → ∀ tmps : Array Value, _ → _ from FIN) (-1) hD
      generalize bgn F n m = bb at g crow
      clear FIN hD hm hs hds hmks hz hK
      gi_wp2_with fail
      exact HF2 _ rfl
end Go.Proofs.YtjggnnmnegcpjaaGreatDoor.Fo
namespace Go.Proofs.YtjggnnmnegcpjaaGreatDoor.Fo
open Go.ChangeShapes Go.WideShapes Go.ChangeAt Go.RowKit Go.Shelf
set_option linter.unusedVariables false
theorem ord_ex (q : Nat) : ∀ k, k ≤ q → ∃ xs : List {j : Nat // j < q}, Ord xs ∧ xs.length = k := by
  intro k
  induction k with
  | zero => intro _; exact ⟨[], Ord.nil, rfl⟩
  | succ k ih =>
    intro h
    obtain ⟨xs, h1, h2⟩ := ih (by omega)
    exact ⟨xs ++ [⟨q - 1 - k, by omega⟩], h1.push (by rw [h2]), by simp [h2]⟩
theorem map_val_inj {q : Nat} : ∀ {xs ys : List {j : Nat // j < q}}, xs.map (fun x => x.val) = ys.map (fun x => x.val) → xs = ys
  | [], [], _ => rfl
  | [], _ :: _, h => by cases h
  | _ :: _, [], h => by cases h
  | x :: xs, y :: ys, h => by
    simp only [List.map_cons, List.cons.injEq] at h
    rw [Subtype.ext h.1, map_val_inj h.2]
theorem ord_uniq {q : Nat} {xs ys : List {j : Nat // j < q}} (hx : Ord xs) (hy : Ord ys) (h : xs.length = ys.length) : xs = ys :=
  map_val_inj ((show _ = _ from hx).trans ((congrArg (bwl q) h).trans (show _ = _ from hy).symm))
/-- the places of the rows of all forms -/
theorem RowF.slots {w : World} {v : Value} {n : Nat} {F : Nat → Gv} (h : RowF w v n F) : ∃ (PN PK : Nat → Option Addr) (CN CK : Nat → Nat), RowX w v n (fun i => (F i).a) (fun i => .slice (PN i) (F i).p (CN i)) (fun i => .slice (PK i) (F i).q (CK i)) ∧ ∀ i, i < n → RowV w (.slice (PK i) (F i).q (CK i)) (F i).q (fun j => .int .i64 ((F i).K j)) := by
  obtain ⟨pf, cf, rfl, hf2⟩ := h
  rcases Nat.eq_zero_or_pos n with h0 | h0
  · exact ⟨fun _ => none, fun _ => none, fun _ => 0, fun _ => 0, ⟨pf, cf, rfl, fun h => by omega⟩, fun i hi => by omega⟩
  · obtain ⟨c, rfl, hcc, hrc⟩ := hf2 h0
    have key : ∀ i, ∃ t : (Option Addr × Option Addr) × (Nat × Nat), i < n → Cel9 w (c.add (i * 9)) (F i).a (.slice t.1.1 (F i).p t.2.1) (.slice t.1.2 (F i).q t.2.2) ∧ RowV w (.slice t.1.2 (F i).q t.2.2) (F i).q (fun j => .int .i64 ((F i).K j)) := fun i => by
      rcases Nat.lt_or_ge i n with hi | hi
      · obtain ⟨vn, vk, hc, hrn, hrk⟩ := hrc i hi
        obtain ⟨pn, cn, rfl, _⟩ := hrn
        obtain ⟨pk, ck, rfl, hk2⟩ := hrk
        exact ⟨((pn, pk), (cn, ck)), fun _ => ⟨hc, ⟨pk, ck, rfl, hk2⟩⟩⟩
      · exact ⟨((none, none), (0, 0)), fun h => by omega⟩
    exact ⟨fun i => (Classical.choose (key i)).1.1, fun i => (Classical.choose (key i)).1.2, fun i => (Classical.choose (key i)).2.1, fun i => (Classical.choose (key i)).2.2,
      ⟨some c, cf, rfl, fun _ => ⟨c, rfl, hcc, fun i hi => (Classical.choose_spec (key i) hi).1⟩⟩, fun i hi => (Classical.choose_spec (key i) hi).2⟩
/-- depths between two rounds; they lie in block N, N the heap's size as the call began -/
structure Dp (w : World) (F : Nat → Gv) (n : Nat) (pre : List {j : Nat // j < n}) (W : World) : Prop where
  os : W.os = w.os
  output : W.output = w.output
  size : w.heap.size + 3 ≤ W.heap.size
  old : ∀ k, k < w.heap.size → W.heap[k]? = w.heap[k]?
  box : W.heap[w.heap.size + 1]? = some (.cells #[.slice (some ⟨w.heap.size, 0, none⟩) n n] 36 (0, 0))
  fz : ∀ k, W.frozen? ⟨w.heap.size, k, none⟩ = false
  row : ∃ D : Nat → Int, (∀ k, k < n → W.cell? ⟨w.heap.size, k, none⟩ = some (.int .i64 (D k))) ∧ (∀ k, 0 ≤ D k ∧ D k ≤ (pre.length : Int)) ∧ (Ord pre → ∀ k, D k = dpr F n pre.length k)
theorem Dp.blk {w : World} {F : Nat → Gv} {n : Nat} {pre : List {j : Nat // j < n}} {W W' : World} (h : Dp w F n pre W) (h1 : W'.os = W.os) (h2 : W'.output = W.output) (h3 : W.heap.size ≤ W'.heap.size) (h4 : ∀ k, k < w.heap.size + 2 → W'.heap[k]? = W.heap[k]?) : Dp w F n pre W' := by
  obtain ⟨D, d1, d2⟩ := h.row
  exact ⟨h1.trans h.os, h2.trans h.output, Nat.le_trans h.size h3, fun k hk => (h4 k (by omega)).trans (h.old k hk), (h4 _ (by omega)).trans h.box, fun k => (World.frozen?_of_block (h4 _ (by show w.heap.size < _; omega))).trans (h.fz k),
    D, fun k hk => (World.cell?_of_block (h4 _ (by show w.heap.size < _; omega))).trans (d1 k hk), d2⟩
theorem own_dp {w : World} {F : Nat → Gv} {n : Nat} : OwnFrom (w.heap.size + 3) (Dp w F n) := fun pre X X' row h hg hr =>
  h.blk hg.os hg.output hg.size (fun k hk => hg.block k (by have := h.size; omega) (fun e => by have := (hr k e.symm).1; omega))
/-- within a round: the first j kids of form x have their depths; o is what lay as the round began -/
structure Dq (w : World) (F : Nat → Gv) (n : Nat) (D : Nat → Int) (X W : World) : Prop where
  os : W.os = X.os
  output : W.output = X.output
  size : X.heap.size ≤ W.heap.size
  old : ∀ k, k < X.heap.size → k ≠ w.heap.size → W.heap[k]? = X.heap[k]?
  oth : ∀ o, X.heap[w.heap.size]? = some o → o.isCells = true
  row : ∀ k, k < n → W.cell? ⟨w.heap.size, k, none⟩ = some (.int .i64 (D k))
  fz : ∀ k, W.frozen? ⟨w.heap.size, k, none⟩ = false
theorem Dq.set {w : World} {F : Nat → Gv} {n : Nat} {D : Nat → Int} {X W : World} (h : Dq w F n D X W) (m : Nat) (hm : m < n) (x : Int) (D' : Nat → Int) (hD : ∀ k, k < n → D' k = if k = m then x else D k) (d : Nat) : Dq w F n D' X ((W.setCell ⟨w.heap.size, m, none⟩ (.int .i64 x)).drewN d) := by
  refine ⟨h.os, h.output, by simpa using h.size, fun k hk hne => (Below.heap_setCell W _ _ _ hne).trans (h.old k hk hne), h.oth, fun k hk => ?_, fun k => (set_fz W w.heap.size m k (.int .i64 x)).trans (h.fz k)⟩
  rw [hD k hk]
  by_cases e : k = m
  · subst e; rw [if_pos rfl]; exact set_eq W _ _ _ (.int .i64 (D k)) (h.row k hk)
  · rw [if_neg e]; exact (set_ne W _ _ _ _ e).trans (h.row k hk)
theorem Dq.keeps {w : World} {F : Nat → Gv} {n : Nat} {D : Nat → Int} {X W : World} (h : Dq w F n D X W) (b : Nat) : KeepsFrom b X W :=
  ⟨h.size, fun k o _ hk ho => by
    by_cases e : k = w.heap.size
    · subst e
      have := h.oth o hk
      rw [ho] at this
      cases this
    · exact (h.old k (Array.getElem?_eq_some_iff.1 hk).1 e).trans hk⟩
theorem Dp.round {w : World} {F : Nat → Gv} {n : Nat} {pre : List {j : Nat // j < n}} {x : {j : Nat // j < n}} {X W : World} (h : Dp w F n pre X) (hpl : pre.length < n) {D : Nat → Int} (d2 : ∀ k, 0 ≤ D k ∧ D k ≤ (pre.length : Int)) (d3 : Ord pre → ∀ k, D k = dpr F n pre.length k)
    (hq : Dq w F n (upd D (F x.val).K (D x.val + 1) (F x.val).q) X W) : Dp w F n (pre ++ [x]) W := by
  have hs := h.size
  refine ⟨hq.os.trans h.os, hq.output.trans h.output, Nat.le_trans hs hq.size, fun k hk => (hq.old k (by omega) (by omega)).trans (h.old k hk), (hq.old _ (by omega) (by omega)).trans h.box, hq.fz, _, hq.row, fun k => ?_, fun ho k => ?_⟩
  · have hx := d2 x.val
    have := upd_in (D := D) (K := (F x.val).K) (x := D x.val + 1) (m := (pre.length : Int) + 1) (fun k => by have := d2 k; omega) (by omega) (F x.val).q k
    rw [List.length_append, List.length_cons, List.length_nil]
    omega
  · obtain ⟨o1, o2⟩ := ho.app
    have e : D = dpr F n pre.length := funext (d3 o1)
    rw [List.length_append, List.length_cons, List.length_nil, e, o2]
    rfl
end Go.Proofs.YtjggnnmnegcpjaaGreatDoor.Fo
namespace Go.Proofs.YtjggnnmnegcpjaaGreatDoor.Fo
open Go.ChangeShapes Go.WideShapes Go.ChangeAt Go.RowKit Go.Shelf
set_option linter.unusedVariables false
attribute [local go_sem] Oper.semAt_some
theorem im_deeper (d : Int) (w : World) : Calls Tryz.prog 84 #[.int .i64 d] w fun e w' => e = .returned (.bool (decide (100 < d))) ∧ w' = w := by
  by_cases h : 100 < d
  · rw [decide_eq_true h]
    go_enter Tryz.func84, Tryz.ntmps84
    go_wp2_with fail
    go_ret
    exact ⟨rfl, rfl⟩
  · rw [decide_eq_false h]
    go_enter Tryz.func84, Tryz.ntmps84
    go_wp2_with fail
    go_ret
    exact ⟨rfl, rfl⟩
theorem en_deeper : ∀ args w, (callFunc 84 args).run Tryz.prog w = .ok (.enter 84 args) w := enters_of Tryz.func84 (by kernel_rfl) rfl
/-- the first form that lies too deep, or -1 -/
inductive Tdp (D : Nat → Int) (n : Nat) : Int → Prop
  | at (i : Nat) : i < n → (∀ j, j < i → D j ≤ 100) → 100 < D i → Tdp D n (i : Int)
  | none : (∀ j, j < n → D j ≤ 100) → Tdp D n (-1)
set_option maxRecDepth 100000 in
set_option maxHeartbeats 4000000 in
theorem im_ixdeep {g n : Nat} {D : Nat → Int} (w : World) (hr : ∀ k, k < n → w.cell? ⟨g, k, none⟩ = some (.int .i64 (D k))) (hp : n ≤ 3000) :
    Calls Tryz.prog 51 #[.slice (some ⟨g, 0, none⟩) n n, .func (.func 84) #[] #[]] w fun e w' => (∃ r : Int, e = .returned (.int .i64 r) ∧ Tdp D n r) ∧ w' = w := by
  have hpI : (n : Int) ≤ 3000 := by omega
  have HR : Hid (∀ k, k < n → w.cell? ⟨g, k, none⟩ = some (.int .i64 (D k))) := hr
  clear hr hp
  have eg := en_deeper
  go_enter Tryz.func51, Tryz.ntmps51
  go_wp2_with fail
  go_loopw [8] (fun s8 wr => ∃ i : Nat, s8 = .int .i64 (i : Int) ∧ i ≤ n ∧ wr = w ∧ Hid (∀ j, j < i → D j ≤ 100)) (fun s8 _ => n - (intOf s8).toNat)
  case atStart => exact ⟨0, rfl, Nat.zero_le _, rfl, (fun j hj => by omega : ∀ j, j < 0 → D j ≤ 100)⟩
  case round =>
    obtain ⟨i, rfl, hin, rfl, HI⟩ := hrel
    have ha := (show ∀ j, j < i → D j ≤ 100 from HI)
    rcases Nat.lt_or_ge i n with hi | hi
    · have hiI : (i : Int) < (n : Int) := by omega
      have qa := (show ∀ k, k < n → wr.cell? ⟨g, k, none⟩ = some (.int .i64 (D k)) from HR) i hi
      have hcall := im_deeper (D i) wr
      by_cases hn : 100 < D i
      · rw [decide_eq_true hn] at hcall
        have HX : Hid (Tdp D n (i : Int)) := .at i hi ha hn
        clear HI ha HR hn
        generalize D i = x at *
        go_wp2_with (go_at_fn 84; refine hcall.mono ?_; rintro e w' ⟨rfl, rfl⟩)
        go_ret
        exact ⟨⟨(i : Int), rfl, HX⟩, rfl⟩
      · rw [decide_eq_false hn] at hcall
        have HX : Hid (∀ j, j < i + 1 → D j ≤ 100) := (fun j hj => by
          by_cases e : j = i
          · rw [e]; omega
          · exact ha j (by omega) : ∀ j, j < i + 1 → D j ≤ 100)
        clear HI ha HR hn
        generalize D i = x at *
        go_wp2_with (go_at_fn 84; refine hcall.mono ?_; rintro e w' ⟨rfl, rfl⟩)
        go_roundw
        case rel => exact ⟨i + 1, by go_num, by omega, by first | trivial | rfl, HX⟩
        case measure => simp [intOf]; omega
    · obtain rfl : i = n := by omega
      clear HR ha
      go_wp2_with fail
      go_ret
      exact ⟨⟨-1, rfl, .none HI⟩, rfl⟩
set_option maxRecDepth 100000 in
set_option maxHeartbeats 4000000 in
theorem im_deep {v : Value} {n : Nat} {F : Nat → Gv} (w : World) (hf : RowF w v n F) (hn : n ≤ 3000) (hK : Kn F n) (hq : ∀ i, i < n → (F i).q ≤ 1048576) :
    Calls Tryz.prog 48 #[v] w fun e w' => (∃ r : Int, e = .returned (.int .i64 r) ∧ Tdp (dpr F n n) n r) ∧ w'.os = w.os ∧ w'.output = w.output ∧ w.heap.size ≤ w'.heap.size ∧ ∀ k, k < w.heap.size → w'.heap[k]? = w.heap[k]? := by
  obtain ⟨PN, PK, CN, CK, hrx, hrk⟩ := hf.slots
  have HRX := hrx
  obtain ⟨pf, cf, rfl, _⟩ := hrx
  obtain ⟨xs, hxo, hxl⟩ := ord_ex n n (Nat.le_refl _)
  have hnI : (n : Int) ≤ 3000 := by omega
  have hmk := run_make (P := Tryz.prog) w 36 3 Tryz.t3 (.int .i64 0) Tryz.underlying36 (by kernel_rfl) (by kernel_rfl) .i64 .i64 (n : Int) (n : Int) (by omega) (Int.le_refl _) (by show (8 : Int) * (n : Int) ≤ _; omega) (by omega)
  rw [Int.toNat_natCast] at hmk
  have HMB := fun W => bwf_make pf n cf W
  have HST : Hid (RowX w (.slice pf n cf) n (fun i => (F i).a) (fun i => .slice (PN i) (F i).p (CN i)) (fun i => .slice (PK i) (F i).q (CK i)) ∧ (∀ i, i < n → RowV w (.slice (PK i) (F i).q (CK i)) (F i).q (fun j => .int .i64 ((F i).K j))) ∧ Kn F n ∧ (∀ i, i < n → (F i).q ≤ 1048576) ∧ Ord xs ∧ xs.length = n) := (⟨HRX, hrk, hK, hq, hxo, hxl⟩ : _ ∧ _ ∧ _ ∧ _ ∧ _ ∧ _)
  clear hf HRX hrk hK hq hxo
  refine (callsIn_wide (n := 3)).1 ?_
  refine callsIn_of_wp_marks Tryz.func48 rfl trivial ?_ rfl
  simp only [Tryz.ntmps48, List.size_toArray, List.length_cons, List.length_nil, Nat.reduceAdd, Nat.reduceSub, Array.replicate_succ, Array.replicate_zero, List.push_toArray, List.append_toArray, List.nil_append, List.cons_append]
  gi_wp2_with fail
  refine ⟨trivial, (callsIn_wide.2 (HMB _)).mono ?_⟩
  rintro en w4 ⟨rfl, hw4⟩
  gi_wp2_with fail
  obtain ⟨W3, hW3⟩ : ∃ W3, W3 = (((w.alloc (.cells (madeCells #[.int .i64 0] (n * Tryz.t3.size)) 3)).alloc (.cells #[.slice (some ⟨w.heap.size, 0, none⟩) n n] 36)).alloc (.cells #[.slice pf n cf] 29)) := ⟨_, rfl⟩
  rw [← hW3]
  have z3 : W3.heap.size = w.heap.size + 3 := by rw [hW3]; simp
  have d3 : Dp w F n [] W3 := by
    rw [hW3]
    refine ⟨rfl, rfl, by simp, fun k hk => ?_, ?_, fun k => ?_, fun _ => 0, fun k hk => ?_, fun k => by simp, fun _ k => rfl⟩
    · rw [Below.heap_alloc _ _ _ (by simp; omega), Below.heap_alloc _ _ _ (by simp; omega), Below.heap_alloc _ _ _ hk]
    · rw [Below.heap_alloc _ _ _ (by simp)]
      have := World.alloc_heap_new (w.alloc (.cells (madeCells #[.int .i64 0] (n * Tryz.t3.size)) 3)) (.cells #[.slice (some ⟨w.heap.size, 0, none⟩) n n] 36)
      simpa using this
    · rw [World.frozen?_alloc_past _ _ _ (by simp; omega), World.frozen?_alloc_past _ _ _ (by simp)]
      exact World.frozen?_alloc_at _ _ _ _ (by simp)
    · rw [World.cell?_alloc_past _ _ _ (by simp; omega), World.cell?_alloc_past _ _ _ (by simp)]
      exact made_cell w (.int .i64 0) 3 n rfl k hk
  have s3 : W3.cell? ⟨w.heap.size + 1 + 1, 0, none⟩ = some (.slice pf n cf) := by
    rw [hW3, World.cell?_alloc_at _ _ _ _ (by simp)]; rfl
  clear hW3 hw4 HMB hmk
  refine wpIn_rangeFunc_st (α := {j : Nat // j < n}) (n := 3) (by omega) (gf := 129) (lb := #[.pointer (some ⟨w.heap.size + 1 + 1, 0, none⟩)]) rfl (enters_of Tryz.func129 (by kernel_rfl) rfl)
    (encs := fun x => #[.int .i64 (x.val : Int), fmv (F x.val).a (.slice (PN x.val) (F x.val).p (CN x.val)) (.slice (PK x.val) (F x.val).q (CK x.val))]) (fun _ => rfl) (w.heap.size + 1 + 1) (by omega) xs (fun _ => True) (Dp w F n) (by rw [z3]; exact own_dp)
    (fun s X X' h hk => h.blk hk.os hk.output hk.size (fun k hl => hk.block k (by have := h.size; omega) (by omega))) d3 (fun _ _ _ _ _ => trivial) ?iter (fun x => .cells #[.int .i64 (F x.val).a.k, .int .i64 (F x.val).a.f, .int .i64 (F x.val).a.t, .int .i64 (F x.val).a.l, .int .i64 (F x.val).a.o, .int .i64 (F x.val).a.m, .string (F x.val).a.x, .slice (PN x.val) (F x.val).p (CN x.val), .slice (PK x.val) (F x.val).q (CK x.val)] 58)
    (fun x bx => { tmps := #[.slice pf n cf, undef, .int .i64 0, .pointer (some ⟨w.heap.size + 1, 0, none⟩), .int .i64 (x.val : Int), .pointer (some ⟨bx, 0, none⟩), undef, undef, .slice pf n cf, .int .i64 (n : Int), .slice (some ⟨w.heap.size, 0, none⟩) n n, .slice pf n cf, .func (.func 129) #[] #[.pointer (some ⟨w.heap.size + 1 + 1, 0, none⟩)], .int .i64 (x.val : Int), .agg #[.int .i64 (F x.val).a.k, .int .i64 (F x.val).a.f, .int .i64 (F x.val).a.t, .int .i64 (F x.val).a.l, .int .i64 (F x.val).a.o, .int .i64 (F x.val).a.m, .string (F x.val).a.x, .slice (PN x.val) (F x.val).p (CN x.val), .slice (PK x.val) (F x.val).q (CK x.val)], undef, undef, undef, undef, undef, undef, undef, undef, undef, undef, undef, undef, undef, undef, undef, undef, undef, undef], defers := [] }) ?assign ?body ?done
  case iter =>
    obtain ⟨hrx, hrk, hK, hq, hxo, _⟩ := (show RowX w (.slice pf n cf) n (fun i => (F i).a) (fun i => .slice (PN i) (F i).p (CN i)) (fun i => .slice (PK i) (F i).q (CK i)) ∧ (∀ i, i < n → RowV w (.slice (PK i) (F i).q (CK i)) (F i).q (fun j => .int .i64 ((F i).K j))) ∧ Kn F n ∧ (∀ i, i < n → (F i).q ≤ 1048576) ∧ Ord xs ∧ xs.length = n from HST)
    intro lp J X hb hJ hJI hY h0
    refine (bwf_in 2 (by omega) lp (w.heap.size + 1 + 1) w (q := n) (by omega) hrx J (fun _ _ => False) (fun pre x W1 hj hl => ?_) X (fun k hk => (hb.block k (by omega)).trans (d3.old k hk)) ((hb.cell (p := ⟨w.heap.size + 1 + 1, 0, none⟩) (lt_of_cell s3)).trans s3) h0).mono ?_
    · obtain ⟨fn, tmps, assign, body, hy, hR⟩ := hY pre x W1 hj (by rw [hxl]; exact hl)
      refine ⟨fn, tmps, assign, body, hy, hR.mono fun e W' ⟨he, hj', hB⟩ => .inl ⟨he, hj', fun k hk => ?_⟩⟩
      rcases hk with hk | rfl
      · exact ((hJI _ _ hj').old k hk).trans ((hJI _ _ hj).old k hk).symm
      · exact hB
    · rintro e W' ⟨he, ⟨ys, ⟨o, l⟩, hj⟩ | ⟨_, _, f⟩⟩
      · rw [ord_uniq hxo o (hxl.trans l.symm)]; exact ⟨he, hj, trivial⟩
      · exact f.elim
  case assign =>
    intro l x X K hKK
    unfold fmv
    gi_wp2
    exact hKK
  case body =>
    intro l pre x bx X hpl hi hbx hX
    obtain ⟨hrx, hrk, hK, hq, hxo, _⟩ := (show RowX w (.slice pf n cf) n (fun i => (F i).a) (fun i => .slice (PN i) (F i).p (CN i)) (fun i => .slice (PK i) (F i).q (CK i)) ∧ (∀ i, i < n → RowV w (.slice (PK i) (F i).q (CK i)) (F i).q (fun j => .int .i64 ((F i).K j))) ∧ Kn F n ∧ (∀ i, i < n → (F i).q ≤ 1048576) ∧ Ord xs ∧ xs.length = n from HST)
    obtain ⟨D, d1, d2, dd⟩ := hi.row
    obtain ⟨i, hix⟩ : ∃ i, i = x.val := ⟨_, rfl⟩
    have hin : i < n := by rw [hix]; exact x.property
    have t8 : X.cell? ⟨bx, 8, none⟩ = some (.slice (PK x.val) (F x.val).q (CK x.val)) := by simp [World.cell?, hX]
    have hqi := hq i hin
    have hqI : ((F i).q : Int) ≤ 1048576 := by omega
    have HQ0 : Hid (Dq w F n (upd D (F i).K (D i + 1) 0) X X) := ⟨rfl, rfl, Nat.le_refl _, fun _ _ _ => rfl, fun o ho => by
      have h0 := hi.fz
      cases o with
      | cells _ _ _ => rfl
      | _ => exact absurd (d1 i hin) (by simp [World.cell?, ho]), d1, hi.fz⟩
    have HEND : Hid (∀ W, Dq w F n (upd D (F i).K (D i + 1) (F i).q) X W → bodyEnd W3.heap.size (w.heap.size + 1 + 1) (Dp w F n) (pre ++ [x]) X .normal { tmps := #[], defers := [] } W) := (fun W hw => by
      rw [hix] at hw
      refine (⟨hw.keeps _, hi.round (x := x) (by omega) d2 dd hw, hw.old (w.heap.size + 1 + 1) (by have := hi.size; omega) (by omega)⟩ : _ ∧ _ ∧ _) : ∀ W, _)
    have HIN : Hid (i < n ∧ Kn F n ∧ (∀ k, 0 ≤ D k ∧ D k ≤ (pre.length : Int)) ∧ (∀ k, k < w.heap.size → X.heap[k]? = w.heap[k]?) ∧ X.heap[w.heap.size + 1]? = some (.cells #[.slice (some ⟨w.heap.size, 0, none⟩) n n] 36 (0, 0)) ∧ w.heap.size + 3 ≤ X.heap.size ∧ RowV w (.slice (PK i) (F i).q (CK i)) (F i).q (fun j => .int .i64 ((F i).K j))) := (⟨hin, hK, d2, hi.old, hi.box, hi.size, hrk i hin⟩ : _ ∧ _ ∧ _ ∧ _ ∧ _ ∧ _ ∧ _)
    have hpn : pre.length < 3000 := by omega
    rw [← hix] at t8 ⊢
    have mixed : Tryz.prog.follows .mixedOrders = true := by kernel_rfl
    clear hi hX hrx hrk hK hq hxo d1 d2 dd hqi hix HST d3 s3
    gi_wp2_with fail
    gi_loopw [18] (fun s18 wr => ∃ j : Nat, s18 = .int .i64 (j : Int) ∧ j ≤ (F i).q ∧ Hid (Dq w F n (upd D (F i).K (D i + 1) j) X wr)) (fun s18 _ => (F i).q - (intOf s18).toNat)
    case atStart => exact ⟨0, rfl, Nat.zero_le _, HQ0⟩
    case round =>
      obtain ⟨j, rfl, hjq, HJ⟩ := hrel
      have hJ := (show Dq w F n (upd D (F i).K (D i + 1) j) X wr from HJ)
      obtain ⟨hin, hK, d2, hold, hbox, hsz, hrk⟩ := (show i < n ∧ Kn F n ∧ (∀ k, 0 ≤ D k ∧ D k ≤ (pre.length : Int)) ∧ (∀ k, k < w.heap.size → X.heap[k]? = w.heap[k]?) ∧ X.heap[w.heap.size + 1]? = some (.cells #[.slice (some ⟨w.heap.size, 0, none⟩) n n] 36 (0, 0)) ∧ w.heap.size + 3 ≤ X.heap.size ∧ RowV w (.slice (PK i) (F i).q (CK i)) (F i).q (fun j => .int .i64 ((F i).K j)) from HIN)
      clear HQ0
      rcases Nat.lt_or_ge j (F i).q with hj | hj
      · have hjI : (j : Int) < ((F i).q : Int) := by omega
        obtain ⟨pa, ca, hpe, hr2⟩ := hrk
        obtain ⟨b, hb, hcb, hra⟩ := hr2 (by omega)
        obtain ⟨e1, _, e2⟩ : PK i = pa ∧ (F i).q = (F i).q ∧ CK i = ca := by simpa using hpe
        subst e2
        rw [e1, hb] at *
        have q0w := hra j hj
        have hl0 := lt_of_cell' q0w
        obtain ⟨k0, k1⟩ := hK i hin j hj
        obtain ⟨m, hm⟩ : ∃ m : Nat, (F i).K j = (m : Int) := ⟨((F i).K j).toNat, by omega⟩
        have q0 : wr.cell? (b.add j) = some (.int .i64 (m : Int)) := by
          rw [← hm]; exact (World.cell?_of_block ((hJ.old _ (by omega) (by omega)).trans (hold _ hl0))).trans q0w
        have hb1 := (hJ.old (w.heap.size + 1) (by omega) (by omega)).trans hbox
        have c3 : wr.cell? ⟨w.heap.size + 1, 0, none⟩ = some (.slice (some ⟨w.heap.size, 0, none⟩) n n) := by simp [World.cell?, hb1]
        have q1 := hJ.row i hin
        rw [upd_far j (fun j' hj' => (hK i hin j' (by omega)).2)] at q1
        have q2 := hJ.row m (by omega)
        have q3 := hJ.fz m
        have hmn : (m : Int) < (n : Int) := by omega
        have hiI : (i : Int) < (n : Int) := by omega
        have hd := d2 i
        have hd1 : 0 ≤ D i := hd.1
        have hd2 : D i ≤ 3000 := by omega
        have HX : Hid (∀ d, Dq w F n (upd D (F i).K (D i + 1) (j + 1)) X ((wr.setCell ⟨w.heap.size, m, none⟩ (.int .i64 (D i + 1))).drewN d)) := (fun d => hJ.set m (by omega) (D i + 1) _ (fun y hy => by
          show (if (y : Int) = (F i).K j then D i + 1 else upd D (F i).K (D i + 1) j y) = _
          rw [hm]
          by_cases e : y = m
          · rw [if_pos (by omega), if_pos e]
          · rw [if_neg (by omega), if_neg e]) d : ∀ d, _)
        clear hJ HJ k0 k1 hm hK d2 hold hbox hra q0w hl0 hb1 hd HIN HEND hr2
        generalize D i = z at *
        generalize upd D (F i).K (z + 1) j m = z2 at *
        have hwz : IntKind.i64.wrap (z + 1) = z + 1 := by simp only [IntKind.wrap_i64]; omega
        gi_wp2_with fail
        gi_region_with_o (fail)
        all_goals
          have HX1 : Hid (Dq w F n (upd D (F i).K (z + 1) (j + 1)) X (wr.setCell ⟨w.heap.size, m, none⟩ (.int .i64 (z + 1))).drew) := (show ∀ d, _ from HX) 1
          clear HX q0 q1 q2 q3 c3
          gi_wp2_with fail
          go_roundw
          case rel => exact ⟨j + 1, by go_num, by omega, HX1⟩
          case measure => simp [intOf]; omega
      · have ej : j = (F i).q := by omega
        have HX := (show ∀ W, _ → _ from HEND) wr (by rw [← ej]; exact hJ)
        have HX2 : Hid (bodyEnd W3.heap.size (w.heap.size + 1 + 1) (Dp w F n) (pre ++ [x]) X .normal { tmps := #[], defers := [] } wr) := HX
        rw [ej]
        clear hJ HJ HEND HIN hK d2 hold hbox hsz hrk ej hj hjq HX
        gi_wp2_with fail
        exact HX2
  case done =>
    rintro D' X hD hi _ hx
    obtain ⟨_, _, _, _, hxo, _⟩ := (show RowX w (.slice pf n cf) n (fun i => (F i).a) (fun i => .slice (PN i) (F i).p (CN i)) (fun i => .slice (PK i) (F i).q (CK i)) ∧ (∀ i, i < n → RowV w (.slice (PK i) (F i).q (CK i)) (F i).q (fun j => .int .i64 ((F i).K j))) ∧ Kn F n ∧ (∀ i, i < n → (F i).q ≤ 1048576) ∧ Ord xs ∧ xs.length = n from HST)
    obtain ⟨D, d1, d2, dd⟩ := hi.row
    have c3 : X.cell? ⟨w.heap.size + 1, 0, none⟩ = some (.slice (some ⟨w.heap.size, 0, none⟩) n n) := by simp [World.cell?, hi.box]
    have HC := im_ixdeep X d1 hn
    have HX : Hid (D = dpr F n n ∧ X.os = w.os ∧ X.output = w.output ∧ w.heap.size + 3 ≤ X.heap.size ∧ (∀ k, k < w.heap.size → X.heap[k]? = w.heap[k]?) ∧ X.heap[D']? = some (.deferred (some []))) := (⟨by funext k; have := dd hxo k; rw [hxl] at this; exact this, hi.os, hi.output, hi.size, hi.old, hx⟩ : _ ∧ _ ∧ _ ∧ _ ∧ _ ∧ _)
    clear hi d1 d2 dd HST d3 s3 hx
    gi_wp2_with fail
    refine ⟨trivial, (callsIn_wide.2 HC).mono ?_⟩
    rintro en w5 ⟨⟨r, rfl, hr⟩, rfl⟩
    obtain ⟨x1, x2, x3, x4, x5, x6⟩ := (show D = dpr F n n ∧ w5.os = w.os ∧ w5.output = w.output ∧ w.heap.size + 3 ≤ w5.heap.size ∧ (∀ k, k < w.heap.size → w5.heap[k]? = w.heap[k]?) ∧ w5.heap[D']? = some (.deferred (some [])) from HX)
    rw [x1] at hr
    clear HC c3 x1
    gi_wp2_with fail
    refine leaves_marks [D'] w5 (by simp) (fun r' hr' => by rw [List.mem_singleton.1 hr']; exact x6) (fun w' h1 h2 h3 h4 => ?_)
    refine ⟨_, by simp [results, Tryz.results48, go_sem]; rfl, ?_⟩
    exact ⟨⟨r, rfl, hr⟩, h1.trans x2, h2.trans x3, by omega, fun k hk => (h4 k (fun e => by have := List.mem_singleton.1 e; omega)).trans (x5 k hk)⟩
end Go.Proofs.YtjggnnmnegcpjaaGreatDoor.Fo
