import Derived.Test.YtgpbmmhfhjobkaaBar
namespace Go.Proofs.Ytgpbmmhfhjobkaa
open Go.ChangeShapes Go.WideShapes Go.ChangeAt Go.RowKit
set_option linter.unusedVariables false
/-- a row that grows in cell c of block h, from world M on -/
structure Gp (M : World) (h c : Nat) (v : Value) (e n : Nat) (A : Nat → Value) (W : World) : Prop where
  kq : Kq (fun k => k = h) M W
  hl : h < M.heap.size
  cells : ∀ o, o ≠ c → W.cell? ⟨h, o, none⟩ = M.cell? ⟨h, o, none⟩
  cc : W.cell? ⟨h, c, none⟩ = some v
  fz : ∀ o, W.frozen? ⟨h, o, none⟩ = false
  row : W.ownsRow M.heap.size e 1 v n (lst A n)
theorem Gp.step {M : World} {h c : Nat} {v v' : Value} {e i : Nat} {A : Nat → Value} {W w2 : World} {o : Obj} (g : Gp M h c v e i A W) (ho : w2.ownsRow M.heap.size e 1 v' (i + 1) (lst A i ++ [A i])) (hg : (W.alloc o).grownBy w2 v.ownBlock) :
    w2.cell? ⟨h, c, none⟩ = some v ∧ w2.frozen? ⟨h, c, none⟩ = false ∧ Gp M h c v' e (i + 1) A (w2.setCell ⟨h, c, none⟩ v') := by
  have hs := g.kq.size
  have hgs := hg.size
  simp at hgs
  have hlow : ∀ b, b < M.heap.size → w2.heap[b]? = W.heap[b]? := fun b hb => (hg.block b (by simp; omega) (fun e => by have := (g.row.lt b e.symm).1; omega)).trans (Below.heap_alloc _ _ _ (by omega))
  have hh := hlow h g.hl
  have c2 : w2.cell? ⟨h, c, none⟩ = some v := (World.cell?_of_block hh).trans g.cc
  refine ⟨c2, (World.frozen?_of_block hh).trans (g.fz c), ⟨⟨hg.os.trans g.kq.os, hg.tape.trans g.kq.tape, hg.output.trans g.kq.output, by simp; omega, fun b hb hn => ?_⟩, g.hl, fun o' ho' => ?_, set_eq _ _ _ _ _ c2, fun o' => ?_, ?_⟩⟩
  · rw [Below.heap_setCell w2 _ _ _ hn, hlow b hb]; exact g.kq.block b hb hn
  · rw [set_ne _ _ _ _ _ ho', World.cell?_of_block hh]; exact g.cells o' ho'
  · rw [set_fz, World.frozen?_of_block hh]; exact g.fz o'
  · rw [lst_succ]
    refine rowBlk ho (fun g' e2 => Below.heap_setCell w2 _ _ _ ?_)
    have := (ho.lt g' e2).1
    have := g.hl
    show g' ≠ h
    omega
theorem Gp.start (M : World) (h c e : Nat) (A : Nat → Value) (hl : h < M.heap.size) (hc : M.cell? ⟨h, c, none⟩ = some (.slice none 0 0)) (fz : ∀ o, M.frozen? ⟨h, o, none⟩ = false) : Gp M h c (.slice none 0 0) e 0 A M :=
  ⟨Kq.refl _ _, hl, fun _ _ => rfl, hc, fz, World.ownsRow_nil _ _ _ _⟩
theorem Gp.shape {M : World} {h c : Nat} {v : Value} {e i : Nat} {A : Nat → Value} {W : World} (g : Gp M h c v e i A W) : ∃ (ad : Option Addr) (cap : Nat), v = .slice ad i cap := by
  rcases g.row.2 with ⟨h1, h2⟩ | ⟨g2, cap, cur, e3, _⟩
  · exact ⟨none, 0, by rw [h1, h2]⟩
  · exact ⟨_, _, e3⟩
set_option maxRecDepth 100000 in
set_option maxHeartbeats 8000000 in
theorem copy_form {a : Fv} {n1 k1 : Value} {p q : Nat} {A : Nat → ByteArray} {K : Nat → Int} (w : World)
    (h1 : RowV w n1 p (fun i => .string (A i))) (h3 : RowV w k1 q (fun i => .int .i64 (K i))) (hp : p ≤ 1048576) (hq : q ≤ 1048576) :
    Calls Try.prog 12 #[fmv a n1 k1] w fun e w' => ∃ vn vk gn gk, e = .returned (fmv a vn vk) ∧ OwnR w' vn gn p (fun i => .string (A i)) ∧ OwnR w' vk gk q (fun i => .int .i64 (K i)) ∧ (0 < p → w.heap.size ≤ gn ∧ gn < w'.heap.size) ∧ (0 < q → w.heap.size ≤ gk ∧ gk < w'.heap.size) ∧ (0 < p → 0 < q → gn ≠ gk) ∧ Below w.heap.size w w' := by
  unfold fmv
  obtain ⟨k, f, t, l, o, m, x⟩ := a
  obtain ⟨pn, cn, rfl, hn2⟩ := h1
  obtain ⟨pk, ck, rfl, hk2⟩ := h3
  have hpI : (p : Int) ≤ 1048576 := by omega
  have hqI : (q : Int) ≤ 1048576 := by omega
  obtain ⟨i9, hi9, hz90, hz91, hz92⟩ := info_parts info9
  obtain ⟨i3, hi3, hz30, hz31, hz32⟩ := info_parts info3
  have HI9 : Hid (Try.prog.info? 9 = some i9) := hi9
  have HI3 : Hid (Try.prog.info? 3 = some i3) := hi3
  obtain ⟨w3, hw3⟩ : ∃ w3, w3 = ((w.alloc (.cells #[.int .i64 k, .int .i64 f, .int .i64 t, .int .i64 l, .int .i64 o, .int .i64 m, .string x, .slice pn p cn, .slice pk q ck] 38)).alloc (.cells #[.int .i64 0, .int .i64 0, .int .i64 0, .int .i64 0, .int .i64 0, .int .i64 0, .string ⟨#[]⟩, .slice none 0 0, .slice none 0 0] 38)).alloc (.cells #[.int .i64 k, .int .i64 f, .int .i64 t, .int .i64 l, .int .i64 o, .int .i64 m, .string x, .slice none 0 0, .slice pk q ck] 38) := ⟨_, rfl⟩
  obtain ⟨r0, r1, r2, s1, s2, z3⟩ := al3 w _ _ _ _ _ _ w3 hw3
  have b3 : Below w.heap.size w w3 := by rw [hw3]; exact bel3 _ _ _ _
  have HG0 : Hid (Gp w3 (w.heap.size + 1 + 1) 7 (.slice none 0 0) 9 0 (fun i => .string (A i)) w3) := Gp.start w3 _ 7 9 _ (by omega) (r2 7) s2
  have HA : Hid ((0 < p → ∃ a : Addr, pn = some a ∧ p ≤ cn ∧ ∀ i, i < p → w.cell? (a.add i) = some (.string (A i))) ∧ (0 < q → ∃ a : Addr, pk = some a ∧ q ≤ ck ∧ ∀ i, i < q → w.cell? (a.add i) = some (.int .i64 (K i))) ∧ Below w.heap.size w w3 ∧ w3.heap.size = w.heap.size + 1 + 1 + 1) := (⟨hn2, hk2, b3, z3⟩ : _ ∧ _ ∧ _ ∧ _)
  have HR : Hid ((∀ j, w3.cell? ⟨w.heap.size, j, none⟩ = (#[.int .i64 k, .int .i64 f, .int .i64 t, .int .i64 l, .int .i64 o, .int .i64 m, .string x, .slice pn p cn, .slice pk q ck] : Array Value)[j]?) ∧ (∀ j, w3.cell? ⟨w.heap.size + 1, j, none⟩ = (#[.int .i64 0, .int .i64 0, .int .i64 0, .int .i64 0, .int .i64 0, .int .i64 0, .string ⟨#[]⟩, .slice none 0 0, .slice none 0 0] : Array Value)[j]?) ∧ (∀ j, w3.cell? ⟨w.heap.size + 1 + 1, j, none⟩ = (#[.int .i64 k, .int .i64 f, .int .i64 t, .int .i64 l, .int .i64 o, .int .i64 m, .string x, .slice none 0 0, .slice pk q ck] : Array Value)[j]?) ∧ (∀ j, w3.frozen? ⟨w.heap.size + 1, j, none⟩ = false)) := (⟨r0, r1, r2, s1⟩ : _ ∧ _ ∧ _ ∧ _)
  clear r0 r1 r2 s1 s2 z3 b3 hn2 hk2 hp hq hi9 hi3
  go_enter Try.func12, Try.ntmps12
  go_wp2_with fail
  rw [← hw3]
  clear hw3
  go_loopw [13] (fun s13 wr => ∃ (i : Nat) (v : Value), s13 = .int .i64 (i : Int) ∧ i ≤ p ∧ Hid (Gp w3 (w.heap.size + 1 + 1) 7 v 9 i (fun i => .string (A i)) wr)) (fun s13 _ => p - (intOf s13).toNat)
  case atStart => exact ⟨0, _, rfl, Nat.zero_le _, HG0⟩
  case round =>
    clear HG0
    obtain ⟨i, v, rfl, hin, HI⟩ := hrel
    have hI := (show Gp w3 (w.heap.size + 1 + 1) 7 v 9 i (fun i => .string (A i)) wr from HI)
    have hA := (show (0 < p → ∃ a : Addr, pn = some a ∧ p ≤ cn ∧ ∀ i, i < p → w.cell? (a.add i) = some (.string (A i))) ∧ (0 < q → ∃ a : Addr, pk = some a ∧ q ≤ ck ∧ ∀ i, i < q → w.cell? (a.add i) = some (.int .i64 (K i))) ∧ Below w.heap.size w w3 ∧ w3.heap.size = w.heap.size + 1 + 1 + 1 from HA)
    rcases Nat.lt_or_ge i p with hi | hi
    · have hiI : (i : Int) < (p : Int) := by omega
      obtain ⟨a, rfl, hca, hra⟩ := hA.1 (by omega)
      have q0 := hra i hi
      have hl := lt_of_cell' q0
      have hsz := hI.kq.size
      have qa : wr.cell? (a.add i) = some (.string (A i)) := by
        rw [World.cell?_of_block (w := w3) (hI.kq.block _ (by omega) (by omega)), hA.2.2.1.cell hl]
        exact q0
      have cc := hI.cc
      have howna : ∀ o : Obj, (wr.alloc o).ownsRow w3.heap.size 9 1 v i (lst (fun i => .string (A i)) i) := fun o => hI.row.alloc o
      have HST : Hid (∀ (o : Obj) (v' : Value) (w2 : World), w2.ownsRow w3.heap.size 9 1 v' (i + 1) (lst (fun i => .string (A i)) i ++ [.string (A i)]) → (wr.alloc o).grownBy w2 v.ownBlock → w2.cell? ⟨w.heap.size + 1 + 1, 7, none⟩ = some v ∧ w2.frozen? ⟨w.heap.size + 1 + 1, 7, none⟩ = false ∧ Gp w3 (w.heap.size + 1 + 1) 7 v' 9 (i + 1) (fun i => .string (A i)) (w2.setCell ⟨w.heap.size + 1 + 1, 7, none⟩ v')) := (fun o v' w2 ho hg => hI.step ho hg : ∀ (o : Obj) (v' : Value) (w2 : World), _)
      have hqc := qr_cells wr #[.string (A i)] 9 [.string (A i)] rfl
      have h1c : ∀ u ∈ [(.string (A i) : Value)], u.oneCell' = true := by intro u hu; simp at hu; subst hu; rfl
      have hlt : w.heap.size + 1 + 1 < wr.heap.size := by omega
      have hbs : w3.heap.size ≤ wr.heap.size + 1 := by omega
      obtain ⟨ad, cap, rfl⟩ := hI.shape
      clear hI HI hA HA HR hra q0 hl hin hsz
      generalize hX : A i = X at *
      go_wp2_with (at_builtin; refine wpList_append_own _ rfl (.tmp 18) (.tmp 20) 35 rfl w3.heap.size 9 i9 (.string ⟨#[]⟩) 1 16 Try.underlying35 HI9 hz90 hz91 hz92 rfl (by decide) _ _ _ rfl (howna _) ⟨wr.heap.size, 0, none⟩ 1 1 [.string X] rfl rfl hqc h1c (by unfold maxLen; omega) (by omega) (by simpa using hbs) ?_; intro v' w2 hown1 hgrow1 _; obtain ⟨g', cap', rfl, _, _⟩ := hown1.form (by omega); obtain ⟨d4, z4, hfin⟩ := (show ∀ (o : Obj) (v' : Value) (w2 : World), _ from HST) _ _ _ hown1 hgrow1; have HN : Hid _ := hfin; clear hfin HST hown1 hgrow1 howna cc qa)
      go_roundw
      case rel => exact ⟨i + 1, _, by go_num, by omega, HN⟩
      case measure => simp [intOf]; omega
    · obtain rfl : i = p := by omega
      obtain ⟨ad, cap, rfl⟩ := hI.shape
      obtain ⟨r0, r1, r2, s1⟩ := (show (∀ j, w3.cell? ⟨w.heap.size, j, none⟩ = (#[.int .i64 k, .int .i64 f, .int .i64 t, .int .i64 l, .int .i64 o, .int .i64 m, .string x, .slice pn i cn, .slice pk q ck] : Array Value)[j]?) ∧ (∀ j, w3.cell? ⟨w.heap.size + 1, j, none⟩ = (#[.int .i64 0, .int .i64 0, .int .i64 0, .int .i64 0, .int .i64 0, .int .i64 0, .string ⟨#[]⟩, .slice none 0 0, .slice none 0 0] : Array Value)[j]?) ∧ (∀ j, w3.cell? ⟨w.heap.size + 1 + 1, j, none⟩ = (#[.int .i64 k, .int .i64 f, .int .i64 t, .int .i64 l, .int .i64 o, .int .i64 m, .string x, .slice none 0 0, .slice pk q ck] : Array Value)[j]?) ∧ (∀ j, w3.frozen? ⟨w.heap.size + 1, j, none⟩ = false) from HR)
      have hz3 := hA.2.2.2
      have hsz := hI.kq.size
      have c8 : wr.cell? ⟨w.heap.size + 1 + 1, 8, none⟩ = some (.slice pk q ck) := (hI.cells 8 (by omega)).trans (r2 8)
      have f8 := hI.fz 8
      have n8 : wr.cell? ⟨w.heap.size, 8, none⟩ = some (.slice pk q ck) := (World.cell?_of_block (hI.kq.block w.heap.size (by omega) (by omega))).trans (r0 8)
      obtain ⟨M, hM⟩ : ∃ M, M = wr.setCell ⟨w.heap.size + 1 + 1, 8, none⟩ (.slice none 0 0) := ⟨_, rfl⟩
      have hMz : M.heap.size = wr.heap.size := by rw [hM]; simp
      have hMc : ∀ o', o' ≠ 8 → M.cell? ⟨w.heap.size + 1 + 1, o', none⟩ = wr.cell? ⟨w.heap.size + 1 + 1, o', none⟩ := fun o' ho => by rw [hM]; exact set_ne _ _ _ _ _ ho
      have hMb : ∀ b, b ≠ w.heap.size + 1 + 1 → M.heap[b]? = wr.heap[b]? := fun b hb => by rw [hM]; exact Below.heap_setCell wr _ _ _ hb
      have HG2 : Hid (Gp M (w.heap.size + 1 + 1) 8 (.slice none 0 0) 3 0 (fun i => .int .i64 (K i)) M) := Gp.start M _ 8 3 _ (by omega) (by rw [hM]; exact set_eq _ _ _ _ _ c8) (fun o' => by rw [hM, set_fz]; exact hI.fz o')
      obtain ⟨gn, own, hgn⟩ := own_of hI.row
      have hBM : Below w.heap.size w M := ⟨by rw [hM]; exact hI.kq.os.trans hA.2.2.1.os, by rw [hM]; exact hI.kq.tape.trans hA.2.2.1.tape, by rw [hM]; exact hI.kq.output.trans hA.2.2.1.output, by omega, fun b hb => by rw [hMb b (by omega), hI.kq.block b (by omega) (by omega)]; exact hA.2.2.1.block b hb⟩
      have HM : Hid (OwnR M (.slice ad i cap) gn i (fun i => .string (A i)) ∧ (0 < i → w.heap.size ≤ gn ∧ gn < M.heap.size ∧ gn ≠ w.heap.size + 1 + 1) ∧ Below w.heap.size w M ∧ w.heap.size + 1 + 1 < M.heap.size ∧ M.cell? ⟨w.heap.size + 1 + 1, 0, none⟩ = some (.int .i64 k) ∧ M.cell? ⟨w.heap.size + 1 + 1, 1, none⟩ = some (.int .i64 f) ∧ M.cell? ⟨w.heap.size + 1 + 1, 2, none⟩ = some (.int .i64 t) ∧ M.cell? ⟨w.heap.size + 1 + 1, 3, none⟩ = some (.int .i64 l) ∧ M.cell? ⟨w.heap.size + 1 + 1, 4, none⟩ = some (.int .i64 o) ∧ M.cell? ⟨w.heap.size + 1 + 1, 5, none⟩ = some (.int .i64 m) ∧ M.cell? ⟨w.heap.size + 1 + 1, 6, none⟩ = some (.string x) ∧ M.cell? ⟨w.heap.size + 1 + 1, 7, none⟩ = some (.slice ad i cap) ∧ (∀ j, M.cell? ⟨w.heap.size + 1, j, none⟩ = (#[.int .i64 0, .int .i64 0, .int .i64 0, .int .i64 0, .int .i64 0, .int .i64 0, .string ⟨#[]⟩, .slice none 0 0, .slice none 0 0] : Array Value)[j]?) ∧ (∀ j, M.frozen? ⟨w.heap.size + 1, j, none⟩ = false)) := by
        show _ ∧ _
        have e : ∀ o', o' ≠ 8 → o' ≠ 7 → M.cell? ⟨w.heap.size + 1 + 1, o', none⟩ = w3.cell? ⟨w.heap.size + 1 + 1, o', none⟩ := fun o' h8 h7 => (hMc o' h8).trans (hI.cells o' h7)
        have e1 : M.heap[w.heap.size + 1]? = w3.heap[w.heap.size + 1]? := (hMb _ (by omega)).trans (hI.kq.block _ (by omega) (by omega))
        refine ⟨own.block (fun hp => hMb gn (by have := hgn hp; omega)), fun hp => by have := hgn hp; omega, hBM, by omega, (e 0 (by omega) (by omega)).trans (r2 0), (e 1 (by omega) (by omega)).trans (r2 1), (e 2 (by omega) (by omega)).trans (r2 2), (e 3 (by omega) (by omega)).trans (r2 3), (e 4 (by omega) (by omega)).trans (r2 4), (e 5 (by omega) (by omega)).trans (r2 5), (e 6 (by omega) (by omega)).trans (r2 6), (hMc 7 (by omega)).trans hI.cc, fun j => (World.cell?_of_block e1).trans (r1 j), fun j => (World.frozen?_of_block e1).trans (s1 j)⟩
      have HA2 : Hid (0 < q → ∃ a : Addr, pk = some a ∧ q ≤ ck ∧ ∀ i, i < q → w.cell? (a.add i) = some (.int .i64 (K i))) := hA.2.1
      clear hI HI hA HA HR r0 r1 r2 s1 hz3 hsz hMz hMc hMb own hgn hBM
      go_wp2_with fail
      rw [← hM]
      clear hM c8 f8 n8
      go_loopw [28] (fun s28 wr => ∃ (j : Nat) (v : Value), s28 = .int .i64 (j : Int) ∧ j ≤ q ∧ Hid (Gp M (w.heap.size + 1 + 1) 8 v 3 j (fun i => .int .i64 (K i)) wr)) (fun s28 _ => q - (intOf s28).toNat)
      case atStart => exact ⟨0, _, rfl, Nat.zero_le _, HG2⟩
      case round =>
        clear HG2
        rename_i wr0 _ _ _ _
        obtain ⟨j, v, rfl, hjn, HI⟩ := hrel
        have hI := (show Gp M (w.heap.size + 1 + 1) 8 v 3 j (fun i => .int .i64 (K i)) wr from HI)
        have hM := (show OwnR M (.slice ad i cap) gn i (fun i => .string (A i)) ∧ (0 < i → w.heap.size ≤ gn ∧ gn < M.heap.size ∧ gn ≠ w.heap.size + 1 + 1) ∧ Below w.heap.size w M ∧ w.heap.size + 1 + 1 < M.heap.size ∧ M.cell? ⟨w.heap.size + 1 + 1, 0, none⟩ = some (.int .i64 k) ∧ M.cell? ⟨w.heap.size + 1 + 1, 1, none⟩ = some (.int .i64 f) ∧ M.cell? ⟨w.heap.size + 1 + 1, 2, none⟩ = some (.int .i64 t) ∧ M.cell? ⟨w.heap.size + 1 + 1, 3, none⟩ = some (.int .i64 l) ∧ M.cell? ⟨w.heap.size + 1 + 1, 4, none⟩ = some (.int .i64 o) ∧ M.cell? ⟨w.heap.size + 1 + 1, 5, none⟩ = some (.int .i64 m) ∧ M.cell? ⟨w.heap.size + 1 + 1, 6, none⟩ = some (.string x) ∧ M.cell? ⟨w.heap.size + 1 + 1, 7, none⟩ = some (.slice ad i cap) ∧ (∀ j, M.cell? ⟨w.heap.size + 1, j, none⟩ = (#[.int .i64 0, .int .i64 0, .int .i64 0, .int .i64 0, .int .i64 0, .int .i64 0, .string ⟨#[]⟩, .slice none 0 0, .slice none 0 0] : Array Value)[j]?) ∧ (∀ j, M.frozen? ⟨w.heap.size + 1, j, none⟩ = false) from HM)
        obtain ⟨m1, m2, m3, m4, x0, x1, x2, x3, x4, x5, x6, x7, m5, m6⟩ := hM
        have hsz := hI.kq.size
        rcases Nat.lt_or_ge j q with hj | hj
        · have hjI : (j : Int) < (q : Int) := by omega
          obtain ⟨a, rfl, hca, hra⟩ := (show 0 < q → ∃ a : Addr, pk = some a ∧ q ≤ ck ∧ ∀ i, i < q → w.cell? (a.add i) = some (.int .i64 (K i)) from HA2) (by omega)
          have q0 := hra j hj
          have hl := lt_of_cell' q0
          have qa : wr.cell? (a.add j) = some (.int .i64 (K j)) := by
            rw [World.cell?_of_block (w := M) (hI.kq.block _ (by omega) (by omega)), m3.cell hl]
            exact q0
          have cc := hI.cc
          have howna : ∀ o : Obj, (wr.alloc o).ownsRow M.heap.size 3 1 v j (lst (fun i => .int .i64 (K i)) j) := fun o => hI.row.alloc o
          have HST : Hid (∀ (o : Obj) (v' : Value) (w2 : World), w2.ownsRow M.heap.size 3 1 v' (j + 1) (lst (fun i => .int .i64 (K i)) j ++ [.int .i64 (K j)]) → (wr.alloc o).grownBy w2 v.ownBlock → w2.cell? ⟨w.heap.size + 1 + 1, 8, none⟩ = some v ∧ w2.frozen? ⟨w.heap.size + 1 + 1, 8, none⟩ = false ∧ Gp M (w.heap.size + 1 + 1) 8 v' 3 (j + 1) (fun i => .int .i64 (K i)) (w2.setCell ⟨w.heap.size + 1 + 1, 8, none⟩ v')) := (fun o v' w2 ho hg => hI.step ho hg : ∀ (o : Obj) (v' : Value) (w2 : World), _)
          have hqc := qr_cells wr #[.int .i64 (K j)] 3 [.int .i64 (K j)] rfl
          have h1c : ∀ u ∈ [(.int .i64 (K j) : Value)], u.oneCell' = true := by intro u hu; simp at hu; subst hu; rfl
          have hlt : w.heap.size + 1 + 1 < wr.heap.size := by omega
          have hbs : M.heap.size ≤ wr.heap.size + 1 := by omega
          obtain ⟨ad2, cap2, rfl⟩ := hI.shape
          clear hI HI HM HA2 hra q0 hl hjn hsz m1 m2 m3 m4 m5 m6 x0 x1 x2 x3 x4 x5 x6 x7
          generalize hX : K j = X at *
          go_wp2_with (at_builtin; refine wpList_append_own _ rfl (.tmp 33) (.tmp 35) 36 rfl M.heap.size 3 i3 (.int .i64 0) 1 8 Try.underlying36 HI3 hz30 hz31 hz32 rfl (by decide) _ _ _ rfl (howna _) ⟨wr.heap.size, 0, none⟩ 1 1 [.int .i64 X] rfl rfl hqc h1c (by unfold maxLen; omega) (by omega) (by simpa using hbs) ?_; intro v' w2 hown1 hgrow1 _; obtain ⟨g', cap', rfl, _, _⟩ := hown1.form (by omega); obtain ⟨d4, z4, hfin⟩ := (show ∀ (o : Obj) (v' : Value) (w2 : World), _ from HST) _ _ _ hown1 hgrow1; have HN : Hid _ := hfin; clear hfin HST hown1 hgrow1 howna cc qa)
          go_roundw
          case rel => exact ⟨j + 1, _, by go_num, by omega, HN⟩
          case measure => simp [intOf]; omega
        · obtain rfl : j = q := by omega
          obtain ⟨ad2, cap2, rfl⟩ := hI.shape
          obtain ⟨gk, owk, hgk⟩ := own_of hI.row
          have y : ∀ o', o' ≠ 8 → wr.cell? ⟨w.heap.size + 1 + 1, o', none⟩ = M.cell? ⟨w.heap.size + 1 + 1, o', none⟩ := fun o' ho => hI.cells o' ho
          have y0 := (y 0 (by omega)).trans x0
          have y1 := (y 1 (by omega)).trans x1
          have y2 := (y 2 (by omega)).trans x2
          have y3 := (y 3 (by omega)).trans x3
          have y4 := (y 4 (by omega)).trans x4
          have y5 := (y 5 (by omega)).trans x5
          have y6 := (y 6 (by omega)).trans x6
          have y7 := (y 7 (by omega)).trans x7
          have y8 := hI.cc
          have e1 : wr.heap[w.heap.size + 1]? = M.heap[w.heap.size + 1]? := hI.kq.block _ (by omega) (by omega)
          have u : ∀ j, wr.cell? ⟨w.heap.size + 1, j, none⟩ = (#[.int .i64 0, .int .i64 0, .int .i64 0, .int .i64 0, .int .i64 0, .int .i64 0, .string ⟨#[]⟩, .slice none 0 0, .slice none 0 0] : Array Value)[j]? := fun j => (World.cell?_of_block e1).trans (m5 j)
          have v1 : ∀ j, wr.frozen? ⟨w.heap.size + 1, j, none⟩ = false := fun j => (World.frozen?_of_block e1).trans (m6 j)
          have a0 : wr.cell? ⟨w.heap.size + 1, 0, none⟩ = some (.int .i64 0) := u 0
          have a1 : wr.cell? ⟨w.heap.size + 1, 1, none⟩ = some (.int .i64 0) := u 1
          have a2 : wr.cell? ⟨w.heap.size + 1, 2, none⟩ = some (.int .i64 0) := u 2
          have a3 : wr.cell? ⟨w.heap.size + 1, 3, none⟩ = some (.int .i64 0) := u 3
          have a4 : wr.cell? ⟨w.heap.size + 1, 4, none⟩ = some (.int .i64 0) := u 4
          have a5 : wr.cell? ⟨w.heap.size + 1, 5, none⟩ = some (.int .i64 0) := u 5
          have a6 : wr.cell? ⟨w.heap.size + 1, 6, none⟩ = some (.string ⟨#[]⟩) := u 6
          have a7 : wr.cell? ⟨w.heap.size + 1, 7, none⟩ = some (.slice none 0 0) := u 7
          have a8 : wr.cell? ⟨w.heap.size + 1, 8, none⟩ = some (.slice none 0 0) := u 8
          have HE : Hid (OwnR wr (.slice ad i cap) gn i (fun i => .string (A i)) ∧ OwnR wr (.slice ad2 j cap2) gk j (fun i => .int .i64 (K i)) ∧ (0 < i → w.heap.size ≤ gn ∧ gn < M.heap.size ∧ gn ≠ w.heap.size + 1) ∧ (0 < j → M.heap.size ≤ gk ∧ gk < wr.heap.size) ∧ Below w.heap.size w wr ∧ w.heap.size + 1 + 1 < M.heap.size ∧ M.heap.size ≤ wr.heap.size) := by
            show _ ∧ _
            refine ⟨m1.block (fun hp => hI.kq.block gn (m2 hp).2.1 (m2 hp).2.2), owk, fun hp => ⟨(m2 hp).1, (m2 hp).2.1, fun e => ?_⟩, hgk, ⟨hI.kq.os.trans m3.os, hI.kq.tape.trans m3.tape, hI.kq.output.trans m3.output, by omega, fun b hb => (hI.kq.block b (by omega) (by omega)).trans (m3.block b hb)⟩, m4, hsz⟩
            have q1 := m1.cell 0 hp
            rw [e, m5 0] at q1
            cases q1
          clear hI HI HM HA2 hjn hsz m1 m2 m3 m4 m5 m6 x0 x1 x2 x3 x4 x5 x6 x7 y owk hgk e1 u
          go_wp2_with fail
          refine bodyPost_ret (by simp [results, Try.results12, go_sem, a0, a1, a2, a3, a4, a5, a6, a7, a8]; rfl) rfl ?_
          obtain ⟨n1, n2, n3, n4, n5, n6, n7⟩ := (show OwnR wr (.slice ad i cap) gn i (fun i => .string (A i)) ∧ OwnR wr (.slice ad2 j cap2) gk j (fun i => .int .i64 (K i)) ∧ (0 < i → w.heap.size ≤ gn ∧ gn < M.heap.size ∧ gn ≠ w.heap.size + 1) ∧ (0 < j → M.heap.size ≤ gk ∧ gk < wr.heap.size) ∧ Below w.heap.size w wr ∧ w.heap.size + 1 + 1 < M.heap.size ∧ M.heap.size ≤ wr.heap.size from HE)
          clear HE a0 a1 a2 a3 a4 a5 a6 a7 a8 y0 y1 y2 y3 y4 y5 y6 y7 y8 v1
          have hq := (((((((((Kq.refl (fun k => k = w.heap.size + 1) wr).setCell ⟨w.heap.size + 1, 0, none⟩ rfl (.int .i64 k)).setCell ⟨w.heap.size + 1, 1, none⟩ rfl (.int .i64 f)).setCell ⟨w.heap.size + 1, 2, none⟩ rfl (.int .i64 t)).setCell ⟨w.heap.size + 1, 3, none⟩ rfl (.int .i64 l)).setCell ⟨w.heap.size + 1, 4, none⟩ rfl (.int .i64 o)).setCell ⟨w.heap.size + 1, 5, none⟩ rfl (.int .i64 m)).setCell ⟨w.heap.size + 1, 6, none⟩ rfl (.string x)).setCell ⟨w.heap.size + 1, 7, none⟩ rfl (.slice ad i cap)).setCell ⟨w.heap.size + 1, 8, none⟩ rfl (.slice ad2 j cap2)
          generalize World.setCell _ (⟨w.heap.size + 1, 8, none⟩ : Addr) (Value.slice ad2 j cap2) = wf at hq ⊢
          have zf := hq.size
          exact ⟨_, _, gn, gk, rfl, n1.block (fun hp => hq.block gn (by have := n3 hp; omega) (n3 hp).2.2), n2.block (fun hp => hq.block gk (n4 hp).2 (by have := n4 hp; omega)), fun hp => by have := n3 hp; omega, fun hp => by have := n4 hp; omega, fun h1 h2 => by have := n3 h1; have := n4 h2; omega, ⟨hq.os.trans n5.os, hq.tape.trans n5.tape, hq.output.trans n5.output, by have := n5.size; omega, fun b hb => (hq.block b (by omega) (by omega)).trans (n5.block b hb)⟩⟩
end Go.Proofs.Ytgpbmmhfhjobkaa
