import Derived.Test.YtgocahalfanpjaaDoorCnl
import Derived.Test.YtgocahalfanpjaaDoorCnn
import Derived.Maps.OwnIn
namespace Go.Proofs.YtgocahalfanpjaaDoor.Fo
open Go.ChangeShapes Go.WideShapes Go.ChangeAt Go.RowKit Go.Shelf
set_option linter.unusedVariables false
set_option maxRecDepth 100000
attribute [local go_sem] Oper.semAt_some

theorem wi_start {pv : Option Addr} {cv B : Nat} {R : List (List UInt8)} {l : List UInt8} {w w2 w5 : World} (hB : B ≤ w.heap.size) (ha : w.ownsRow B 9 1 (.slice pv R.length cv) R.length (stv R)) (hw2 : w2 = (w.alloc (.cells #[.slice pv R.length cv] 27)).alloc (.cells #[.int .i64 0, .string ⟨#[]⟩] 23)) (z5 : w5.heap.size = w.heap.size + 2 + 3) (k5 : Kb 0 w2 w5) : WI w B R l [] w5 := by
  have z2 : w2.heap.size = w.heap.size + 2 := by rw [hw2]; simp
  have k2 : Kb 0 w w2 := by rw [hw2]; exact (kb_alloc _ _ _).trans (kb_alloc _ _ _)
  have z1 : (w.alloc (.cells #[.slice pv R.length cv] 27)).heap.size = w.heap.size + 1 := World.size_alloc _ _
  have k := k2.trans k5
  refine ⟨KB.of k hB, by omega, ?_, R, _, fun rest h => by rw [h]; rfl, by simp, ?_, own_keep8 ha (fun g hg => k.block g (Nat.zero_le _) (ha.lt g hg).2), fun g hg => .inl (ha.lt g hg).2⟩
  · rw [k5.block _ (Nat.zero_le _) (by omega), hw2, ← z1]; exact alloc_new _ _ _
  · rw [k5.block _ (Nat.zero_le _) (by omega), hw2, (kb_alloc 0 _ _).block _ (Nat.zero_le _) (by omega)]; exact alloc_new _ _ _
theorem wst_dd {R P row rest : List (List UInt8)} (h : wst R P = wst row ([46, 46] :: rest)) (hr : row ≠ []) : wst R P = wst row.dropLast rest := by
  rw [h, wst, if_neg (by decide), if_pos rfl, if_neg hr]
theorem wst_dd0 {R P rest : List (List UInt8)} (h : wst R P = wst [] ([46, 46] :: rest)) : (wst R P).1 = 2 := by
  rw [h, wst, if_neg (by decide), if_pos rfl, if_pos rfl]
theorem wst_d {R P row rest : List (List UInt8)} (h : wst R P = wst row ([46] :: rest)) : wst R P = wst row rest := by
  rw [h, wst, if_pos rfl]
theorem wst_ok {R P row rest : List (List UInt8)} {x : List UInt8} (h : wst R P = wst row (x :: rest)) (h1 : x ≠ [46, 46]) (ho : okp x = true) : wst R P = wst (row ++ [x]) rest := by
  rw [h, wst, if_neg (by rintro rfl; cases ho), if_neg h1, if_pos ho]
theorem wst_bad {R P row rest : List (List UInt8)} {x : List UInt8} (h : wst R P = wst row (x :: rest)) (h1 : x ≠ [46, 46]) (h2 : x ≠ [46]) (ho : okp x = false) : (wst R P).1 = 1 := by
  rw [h, wst, if_neg h2, if_neg h1, if_neg (by rw [ho]; decide)]
theorem wi_app {w : World} {B : Nat} {R : List (List UInt8)} {l : List UInt8} {pre : List (List UInt8)} {x : List UInt8} {W : World} (hB : B ≤ w.heap.size) (h : WI w B R l pre W) {v : Value} {row : List (List UInt8)} (h3 : W.heap[w.heap.size]? = some (.cells #[v] 27 (0, 0))) (h4 : W.ownsRow B 9 1 v row.length (stv row)) (h5 : ∀ g, v.ownBlock = some g → g < w.heap.size ∨ w.heap.size + 5 ≤ g)
    (g1 : ∀ rest, spB l = (pre ++ [x]) ++ rest → wst R (spB l) = wst (row ++ [x]) rest) (g2 : row.length ≤ R.length + pre.length) {ob : Obj} (v' : Value) (W8 : World) (hown : W8.ownsRow B 9 1 v' (row.length + 1) (stv row ++ [.string (bt x)])) (hgr : (W.alloc ob).grownBy W8 v.ownBlock) (hat : v'.ownBlock = v.ownBlock ∨ v'.ownBlock = some (W.alloc ob).heap.size) :
    W8.heap[w.heap.size]? = some (.cells #[v] 27 (0, 0)) ∧ ∀ a, lvEnd (w.heap.size + 5) (Bx3 (w.heap.size + 2 + 1) (w.heap.size + 2) (w.heap.size + 2 + 1 + 1)) (WI w B R l) (WX w B R l) (pre ++ [x]) W .normal a (W8.setCell ⟨w.heap.size, 0, none⟩ v') := by
  have hs := h.size
  have hz := hgr.size
  rw [World.size_alloc] at hz hat
  have k4 : ∀ k, k < W.heap.size → some k ≠ v.ownBlock → W8.heap[k]? = W.heap[k]? := fun k hk hn => (hgr.block k (by rw [World.size_alloc]; omega) hn).trans ((kb_alloc 0 W ob).block k (Nat.zero_le _) hk)
  refine ⟨(k4 _ (by omega) (fun e => by have := h5 _ e.symm; omega)).trans h3, fun a => wi_step hB h h3 h4 h5 g1 (by simp; omega) (by rw [stv_app, List.length_append]; exact hown) (fun g hg => ?_) hgr.os hgr.output (by omega) k4 a⟩
  rcases hat with e | e
  · exact h5 g (e.symm.trans hg)
  · rw [e] at hg
    injection hg with hg
    omega
theorem two_set {V : World} {b : Nat} {t : TypeId} {c0 c1 : Value} (x0 x1 : Value) (bq : V.heap[b]? = some (.cells #[c0, c1] t (0, 0))) : ((V.setCell ⟨b, 0, none⟩ x0).setCell ⟨b, 1, none⟩ x1).heap[b]? = some (.cells #[x0, x1] t (0, 0)) := by
  simp [World.setCell, Array.getElem?_modify, bq]
/-- the last store, the mark that is taken -/
theorem fin_m {w W : World} {B D : Nat} {c0 c1 : Value} (hB : B ≤ w.heap.size) (k : KB B w W) (hb : W.heap[w.heap.size + 1]? = some (.cells #[c0, c1] 23 (0, 0))) (hD : W.heap[D]? = some (.deferred (some []))) (hD5 : w.heap.size + 5 ≤ D) (x0 x1 : Value) (W' : World) (hW : W' = (W.setCell ⟨w.heap.size + 1, 0, none⟩ x0).setCell ⟨w.heap.size + 1, 1, none⟩ x1) :
    W'.heap[D]? = some (.deferred (some [])) ∧ ∀ o, (W'.putObj D o).cell? ⟨w.heap.size + 1, 0, none⟩ = some x0 ∧ (W'.putObj D o).cell? ⟨w.heap.size + 1, 1, none⟩ = some x1 ∧ KB B w (W'.putObj D o) := by
  have b2 := two_set x0 x1 hb
  rw [← hW] at b2
  have oth : ∀ q, q ≠ w.heap.size + 1 → W'.heap[q]? = W.heap[q]? := fun q hq => by
    rw [hW, Below.heap_setCell _ _ _ _ (fun e => hq e), Below.heap_setCell _ _ _ _ (fun e => hq e)]
  have b3 : ∀ o, (W'.putObj D o).heap[w.heap.size + 1]? = some (.cells #[x0, x1] 23 (0, 0)) := fun o => (World.putObj_heap_other (by omega)).trans b2
  refine ⟨(oth D (by omega)).trans hD, fun o => ⟨cell_of (b3 o) rfl, cell_of (b3 o) rfl, ?_, ?_, ?_, fun i hi => ?_⟩⟩
  · rw [hW]; exact k.os
  · rw [hW]; exact k.output
  · have := k.size; rw [hW]; simp [World.putObj]; omega
  · exact (World.putObj_heap_other (by omega)).trans ((oth i (by omega)).trans (k.block i hi))
/-- the same, where nothing is stored any more -/
theorem fin_n {w W : World} {B D : Nat} {c0 c1 : Value} (hB : B ≤ w.heap.size) (k : KB B w W) (hb : W.heap[w.heap.size + 1]? = some (.cells #[c0, c1] 23 (0, 0))) (hD5 : w.heap.size + 5 ≤ D) :
    ∀ o, (W.putObj D o).cell? ⟨w.heap.size + 1, 0, none⟩ = some c0 ∧ (W.putObj D o).cell? ⟨w.heap.size + 1, 1, none⟩ = some c1 ∧ KB B w (W.putObj D o) := fun o => by
  have b3 : (W.putObj D o).heap[w.heap.size + 1]? = some (.cells #[c0, c1] 23 (0, 0)) := (World.putObj_heap_other (by omega)).trans hb
  exact ⟨cell_of b3 rfl, cell_of b3 rfl, k.os, k.output, by have := k.size; simpa [World.putObj] using this, fun i hi => (World.putObj_heap_other (by omega)).trans (k.block i hi)⟩
set_option maxHeartbeats 32000000 in
theorem im_walked {pv : Option Addr} {cv B : Nat} {R : List (List UInt8)} {l : List UInt8} (hR : R.length ≤ 60) (hp : ∀ p ∈ R, p.length ≤ 60) (hne : ∀ p ∈ R, p ≠ []) (w : World) (hB : B ≤ w.heap.size) (ha : w.ownsRow B 9 1 (.slice pv R.length cv) R.length (stv R)) :
    Calls Tryd.prog 20 #[.slice pv R.length cv, .string (bt l)] w fun e w' => e = .returned (clV (cln R l)) ∧ KB B w w' := by
  obtain ⟨i1, hi1, hz0, hz1, hz2⟩ := infoT
  have HI1 : Hid (Tryd.prog.info? 9 = some i1) := hi1
  clear hi1
  have hsz : (bt l).size = l.length := bt_size l
  refine (callsIn_wide (n := 3)).1 ?_
  refine callsIn_of_wp_marks Tryd.func20 rfl trivial ?_ rfl
  simp only [Tryd.ntmps20, List.size_toArray, List.length_cons, List.length_nil, Nat.reduceAdd, Nat.reduceSub, Array.replicate_succ, Array.replicate_zero, List.push_toArray, List.append_toArray, List.nil_append, List.cons_append]
  by_cases h60 : 60 < l.length
  · have hI : (l.length : Int) > 60 := by omega
    have eV : cln R l = (3, []) := by rw [cln, if_pos h60]
    rw [eV]
    gi_wp2_with fail
    refine ⟨_, by simp [results, Tryd.results20, go_sem]; rfl, ?_⟩
    exact ⟨rfl, KB.of ((kb_alloc _ _ _).trans (kb_alloc _ _ _)) hB⟩
  have hI : ¬ (l.length : Int) > 60 := by omega
  obtain ⟨w2, hw2⟩ : ∃ w2, w2 = (w.alloc (.cells #[.slice pv R.length cv] 27)).alloc (.cells #[.int .i64 0, .string ⟨#[]⟩] 23) := ⟨_, rfl⟩
  gi_wp2_with fail
  rw [← hw2]
  refine ⟨trivial, (callsIn_wide.2 (split_mk l w2)).mono ?_⟩
  have z2 : w2.heap.size = w.heap.size + 2 := by rw [hw2]; simp
  rintro e w5 ⟨rfl, hbx, z5, k5⟩
  rw [z2] at hbx z5 ⊢
  have hi5 : WI w B R l [] w5 := wi_start hB ha hw2 z5 k5
  gi_wp2_with fail
  clear hw2 k5 z2 ha
  have z6 : w5.heap.size = w.heap.size + 5 := by omega
  refine wpIn_rangeFunc_lv (α := List UInt8) (n := 3) (by omega) (gf := 50) (lb := #[.pointer (some ⟨w.heap.size + 2 + 1, 0, none⟩), .pointer (some ⟨w.heap.size + 2, 0, none⟩), .pointer (some ⟨w.heap.size + 2 + 1 + 1, 0, none⟩)]) rfl en_split
    (encs := fun x => #[.string (bt x)]) (fun _ => rfl) (w.heap.size + 2) (by omega) (spB l) (Bx3 (w.heap.size + 2 + 1) (w.heap.size + 2) (w.heap.size + 2 + 1 + 1)) (fun a b => ⟨b.1.trans a.1, b.2.1.trans a.2.1, b.2.2.trans a.2.2⟩)
    (fun X q o hq => bx_of (fun k hk => World.putObj_heap_other (by omega))) (WI w B R l) (WX w B R l) (by rw [z6]; exact own_wi hB) (by rw [z6]; exact own_wx hB) (fun s X X' h hk => h.blk hB (same_kx hk)) hi5 ?iter
    (fun x => { tmps := #[.slice pv R.length cv, .string (bt l), .pointer (some ⟨w.heap.size, 0, none⟩), undef, .pointer (some ⟨w.heap.size + 1, 0, none⟩), .string (bt x), undef, .string (bt l), .int .i64 (l.length : Int), .bool false, undef, .string (bt l), .func (.func 50) #[] #[.pointer (some ⟨w.heap.size + 2 + 1, 0, none⟩), .pointer (some ⟨w.heap.size + 2, 0, none⟩), .pointer (some ⟨w.heap.size + 2 + 1 + 1, 0, none⟩)], .string (bt x), undef, undef, undef, undef, undef, undef, undef, undef, undef, undef, undef, undef, undef, undef, undef, undef, undef, undef, undef, undef, undef, undef, undef, undef, undef, undef, undef, undef, undef, undef, undef, undef, undef, undef, undef, undef], defers := [] }) ?assign ?body ?done ?stop
  case iter =>
    intro lp J Jx X hb hJ hY h0
    exact split_in 2 (by omega) lp _ _ _ (by omega) J Jx hJ hY X ⟨(hb.block _ (by omega)).trans hbx.1, (hb.block _ (by omega)).trans hbx.2.1, (hb.block _ (by omega)).trans hbx.2.2.1, hbx.2.2.2⟩ h0
  case assign =>
    intro lp x X K hKK
    gi_wp2
    exact hKK
  case body =>
    rintro lp pre x W ⟨more, hm⟩ hi
    rw [z6]
    obtain ⟨row, v, h1, h2, h3, h4, h5⟩ := hi.row
    obtain ⟨pv', cv', rfl, hcv⟩ := own_cap h4
    have hxl : x.length ≤ 60 := by have := spB_part l x (by rw [hm]; simp); omega
    have hpl : pre.length ≤ 61 := by have := spB_len l; rw [hm] at this; simp at this; omega
    have hrI : (row.length : Int) ≤ 130 := by omega
    have H1 := h1 (x :: more) hm
    have c0 : W.cell? ⟨w.heap.size, 0, none⟩ = some (.slice pv' row.length cv') := cell_of h3 rfl
    have c1 : W.cell? ⟨w.heap.size + 1, 0, none⟩ = some (.int .i64 0) := cell_of hi.res rfl
    have c2 : W.cell? ⟨w.heap.size + 1, 1, none⟩ = some (.string ⟨#[]⟩) := cell_of hi.res rfl
    have f0 : W.frozen? ⟨w.heap.size, 0, none⟩ = false := frozen_of h3
    have f1 : ∀ j, W.frozen? ⟨w.heap.size + 1, j, none⟩ = false := fun j => frozen_of hi.res
    have hmm : ∀ rest, spB l = (pre ++ [x]) ++ rest → rest = more := fun rest h => by
      rw [hm, List.append_assoc] at h
      have := List.append_cancel_left h
      simpa using this.symm
    clear hbx hi5 z5 hp hne h1 z6
    by_cases q2 : x = [46, 46]
    · subst q2
      have e0 : bt [46, 46] = ⟨#[46, 46]⟩ := rfl
      rw [e0]
      by_cases q3 : row = []
      · subst q3
        have HE : Hid (∀ a, lvEnd (w.heap.size + 5) (Bx3 (w.heap.size + 2 + 1) (w.heap.size + 2) (w.heap.size + 2 + 1 + 1)) (WI w B R l) (WX w B R l) (pre ++ [[46, 46]]) W .ret a ((W.setCell ⟨w.heap.size + 1, 0, none⟩ (.int .i64 2)).setCell ⟨w.heap.size + 1, 1, none⟩ (.string ⟨#[]⟩))) := (fun a => wi_ret hB hi (by decide) (wst_dd0 H1) a : ∀ a, _)
        clear hmm H1 h2 h3 h4 h5 hi
        simp only [List.length_nil] at *
        gi_wp2_with fail
        exact (show ∀ a, _ from HE) _
      obtain ⟨n, hn⟩ : ∃ n, row.length = n + 1 := ⟨row.length - 1, by have := List.length_pos_iff.2 q3; omega⟩
      obtain ⟨g, cap, e0', _, _⟩ := h4.form (by omega)
      injection e0' with e01 _ e03
      subst e01
      subst e03
      have HE : Hid (∀ a, lvEnd (w.heap.size + 5) (Bx3 (w.heap.size + 2 + 1) (w.heap.size + 2) (w.heap.size + 2 + 1 + 1)) (WI w B R l) (WX w B R l) (pre ++ [[46, 46]]) W .normal a (W.setCell ⟨w.heap.size, 0, none⟩ (.slice (some ⟨g, 0, none⟩) n cv'))) := (fun a => wi_step (row' := row.dropLast) hB hi h3 h4 h5 (fun rest h => by rw [hmm rest h]; exact wst_dd H1 q3) (by rw [List.length_dropLast, List.length_append]; omega) (own_drop hn h4) (fun g' h' => h5 g' h') rfl rfl (Nat.le_refl _) (fun _ _ _ => rfl) a : ∀ a, _)
      rw [hn] at hcv c0
      have hnI : (n : Int) ≤ 130 := by omega
      have en : (((n + 1 : Nat) : Int) == 0) = false := by simp; omega
      have hcI : (n : Int) ≤ (cv' : Int) := by omega
      clear hmm H1 h2 h3 h4 h5 hi hn hrI q3
      gi_wp2_with fail
      exact (show ∀ a, _ from HE) _
    have ebl : (bt x).toList = x := bt_list x
    have n2 : (x == [46, 46]) = false := by simpa using q2
    have HPX := im_part hxl W
    have rl := hi.size
    cases ho : okp x with
    | true =>
      rw [ho] at HPX
      have HN0 : Hid (∀ W7, Kb 0 W W7 → W7.ownsRow B 9 1 (.slice pv' row.length cv') row.length (stv row) ∧ W7.heap[w.heap.size]? = some (.cells #[.slice pv' row.length cv'] 27 (0, 0)) ∧ ∀ (v' : Value) (w8 : World), w8.ownsRow B 9 1 v' (row.length + 1) (stv row ++ [.string (bt x)]) → (W7.alloc (.cells #[.string (bt x)] 9)).grownBy w8 (Value.slice pv' row.length cv').ownBlock → (v'.ownBlock = (Value.slice pv' row.length cv').ownBlock ∨ v'.ownBlock = some (W7.alloc (.cells #[.string (bt x)] 9)).heap.size) → w8.heap[w.heap.size]? = some (.cells #[.slice pv' row.length cv'] 27 (0, 0)) ∧ ∀ a, lvEnd (w.heap.size + 5) (Bx3 (w.heap.size + 2 + 1) (w.heap.size + 2) (w.heap.size + 2 + 1 + 1)) (WI w B R l) (WX w B R l) (pre ++ [x]) W .normal a (w8.setCell ⟨w.heap.size, 0, none⟩ v')) := (fun W7 k7 => by
        have h47 := own_keep8 h4 (fun g hg => k7.block g (Nat.zero_le _) (h4.lt g hg).2)
        have h37 := (k7.block w.heap.size (Nat.zero_le _) (by omega)).trans h3
        refine ⟨h47, h37, fun v' w8 y1 y2 y3 => ?_⟩
        obtain ⟨r1, r2⟩ := wi_app (x := x) hB (wi_kb (x := x) hB hi k7) h37 h47 h5 (fun rest h => by rw [hmm rest h]; exact wst_ok H1 q2 ho) h2 v' w8 y1 y2 y3
        exact ⟨r1, fun a => lv_pre rl k7 (r2 a)⟩ : ∀ W7, _)
      clear hmm H1 h2 h3 h4 h5 hi c1 c2 f1
      gi_wp2_with fail
      refine ⟨trivial, (callsIn_wide.2 HPX).mono ?_⟩
      rintro e W7 ⟨rfl, k7⟩
      obtain ⟨O7', b7, HN⟩ := (show ∀ W7, Kb 0 W W7 → _ from HN0) W7 k7
      have O7 : Hid (W7.ownsRow B 9 1 (.slice pv' row.length cv') row.length (stv row)) := O7'
      have c7 : W7.cell? ⟨w.heap.size, 0, none⟩ = some (.slice pv' row.length cv') := cell_of b7 rfl
      have s7 : B ≤ W7.heap.size := by have := k7.size; omega
      clear O7' b7 HN0 HPX c0 f0 k7
      gi_wp2_with (gi_at_builtin; refine wpListIn_append_own_at _ (by rfl) (.tmp 29) (.tmp 31) 27 (by rfl) B 9 i1 (.string ⟨#[]⟩) 1 16 Tryd.underlying27 HI1 hz0 hz1 hz2 rfl (by decide) (.slice pv' row.length cv') row.length (stv row) (by rfl) ((show W7.ownsRow B 9 1 (.slice pv' row.length cv') row.length (stv row) from O7).alloc _) ⟨W7.heap.size, 0, none⟩ 1 1 [.string (bt x)] (by rfl) rfl (qr_cells W7 #[.string (bt x)] 9 [.string (bt x)] rfl) (by intro y hy; simp only [List.mem_cons, List.not_mem_nil, or_false] at hy; rcases hy with rfl; rfl) (by unfold maxLen; omega) (by omega) (by rw [World.size_alloc]; omega) ?_; intro v' w8 hown1 hgrow1 _ hat; obtain ⟨p9, c9, rfl⟩ := own_shape hown1; obtain ⟨b8, HL8⟩ := (show ∀ (v' : Value) (w8 : World), _ from HN) _ w8 hown1 hgrow1 hat; have e8 : w8.cell? ⟨w.heap.size, 0, none⟩ = some (.slice pv' row.length cv') := cell_of b8 rfl; have f8 : w8.frozen? ⟨w.heap.size, 0, none⟩ = false := frozen_of b8; have HL9 : Hid (∀ a, lvEnd (w.heap.size + 5) (Bx3 (w.heap.size + 2 + 1) (w.heap.size + 2) (w.heap.size + 2 + 1 + 1)) (WI w B R l) (WX w B R l) (pre ++ [x]) W .normal a (w8.setCell ⟨w.heap.size, 0, none⟩ (.slice p9 (row.length + 1) c9))) := HL8; clear hown1 hgrow1 hat HN O7 HL8 b8)
      exact (show ∀ a, _ from HL9) _
    | false =>
      rw [ho] at HPX
      by_cases q1 : x = [46]
      · have HE : Hid (∀ W7, Kb 0 W W7 → ∀ a, lvEnd (w.heap.size + 5) (Bx3 (w.heap.size + 2 + 1) (w.heap.size + 2) (w.heap.size + 2 + 1 + 1)) (WI w B R l) (WX w B R l) (pre ++ [x]) W .normal a W7) := (fun W7 k7 a => ⟨kf_kb k7, bx_of (fun k hk => k7.block k (Nat.zero_le _) (by omega)), by
          have h7 := wi_kb (x := x) hB hi k7
          refine ⟨h7.kb, h7.size, h7.res, row, _, fun rest h => ?_, by simp; omega, (k7.block _ (Nat.zero_le _) (by omega)).trans h3, own_keep8 h4 (fun g hg => k7.block g (Nat.zero_le _) (h4.lt g hg).2), h5⟩
          rw [hmm rest h]
          subst q1
          exact wst_d H1⟩ : ∀ W7, _)
        have n1 : (x == [46]) = true := by simpa using q1
        clear q1 q2 ho
        clear hmm H1 h2 h3 h4 h5 hi c1 c2 f1
        gi_wp2_with fail
        refine ⟨trivial, (callsIn_wide.2 HPX).mono ?_⟩
        rintro e W7 ⟨rfl, k7⟩
        have HE7 := (show ∀ W7, Kb 0 W W7 → _ from HE) W7 k7
        clear HE k7 HPX c0 f0
        gi_wp2_with fail
        exact HE7 _
      · have HE : Hid (∀ W7, Kb 0 W W7 → W7.heap[w.heap.size + 1]? = some (.cells #[.int .i64 0, .string ⟨#[]⟩] 23 (0, 0)) ∧ ∀ a, lvEnd (w.heap.size + 5) (Bx3 (w.heap.size + 2 + 1) (w.heap.size + 2) (w.heap.size + 2 + 1 + 1)) (WI w B R l) (WX w B R l) (pre ++ [x]) W .ret a ((W7.setCell ⟨w.heap.size + 1, 0, none⟩ (.int .i64 1)).setCell ⟨w.heap.size + 1, 1, none⟩ (.string ⟨#[]⟩))) := (fun W7 k7 => ⟨(wi_kb (x := x) hB hi k7).res, fun a => lv_pre rl k7 (wi_ret hB (wi_kb (x := x) hB hi k7) (by decide) (wst_bad H1 q2 q1 ho) a)⟩ : ∀ W7, _)
        have n1 : (x == [46]) = false := by simpa using q1
        clear hmm H1 h2 h3 h4 h5 hi c1 c2 f1
        gi_wp2_with fail
        refine ⟨trivial, (callsIn_wide.2 HPX).mono ?_⟩
        rintro e W7 ⟨rfl, k7⟩
        obtain ⟨b7, HE7⟩ := (show ∀ W7, Kb 0 W W7 → _ from HE) W7 k7
        have d1 : W7.cell? ⟨w.heap.size + 1, 0, none⟩ = some (.int .i64 0) := cell_of b7 rfl
        have d2 : W7.cell? ⟨w.heap.size + 1, 1, none⟩ = some (.string ⟨#[]⟩) := cell_of b7 rfl
        have d3 : ∀ j, W7.frozen? ⟨w.heap.size + 1, j, none⟩ = false := fun j => frozen_of b7
        clear HE k7 HPX c0 f0 b7
        gi_wp2_with fail
        exact HE7 _
  case done =>
    intro D W hD5 hi hD
    rw [z6] at hD5
    obtain ⟨row, v, h1, h2, h3, h4, h5⟩ := hi.row
    have H1 : wst R (spB l) = (0, row) := h1 [] (by simp)
    have hs := hi.size
    have HP60 : Hid (∀ p ∈ row, p.length ≤ 60 ∧ p ≠ []) := (by
      intro p hpp
      have e1 := wst_part R (spB l) hp (fun q hq => by have := spB_part l q hq; omega) p
      have e2 := wst_ne R (spB l) hne p
      rw [H1] at e1 e2
      exact ⟨e1 hpp, e2 hpp⟩ : ∀ p ∈ row, _)
    have hrl : row.length ≤ 130 := by have e := wst_len R (spB l); rw [H1] at e; have e' : row.length ≤ R.length + (spB l).length := e; have := spB_len l; omega
    obtain ⟨pv', cv', rfl, hcv⟩ := own_cap h4
    have c0 : W.cell? ⟨w.heap.size, 0, none⟩ = some (.slice pv' row.length cv') := cell_of h3 rfl
    have c1 : W.cell? ⟨w.heap.size + 1, 0, none⟩ = some (.int .i64 0) := cell_of hi.res rfl
    have c2 : W.cell? ⟨w.heap.size + 1, 1, none⟩ = some (.string ⟨#[]⟩) := cell_of hi.res rfl
    have f1 : ∀ j, W.frozen? ⟨w.heap.size + 1, j, none⟩ = false := fun j => frozen_of hi.res
    have EV : cln R l = if row = [] then (1, []) else if 60 < (jn row).length then (3, []) else (0, jn row) := by rw [cln, if_neg h60, H1]; simp
    have hrI : (row.length : Int) ≤ 130 := by omega
    have HIW : Hid (KB B w W ∧ W.heap[w.heap.size + 1]? = some (.cells #[.int .i64 0, .string ⟨#[]⟩] 23 (0, 0)) ∧ W.heap[D]? = some (.deferred (some []))) := (⟨hi.kb, hi.res, hD⟩ : _ ∧ _)
    clear hbx hi5 z5 hp hne h1 z6 H1 h2 h3 h5 hi hD
    by_cases q3 : row = []
    · subst q3
      have eV : cln R l = (1, []) := by rw [EV, if_pos rfl]
      clear EV HP60 h4
      simp only [List.length_nil] at *
      gi_wp2_with fail
      obtain ⟨HK7, r7, D7⟩ := (show _ ∧ _ ∧ _ from HIW)
      refine ⟨by simp, .inl ⟨D, _, rfl, run_takeDeferred (fin_m hB HK7 r7 D7 hD5 _ _ _ rfl).1, ?_⟩⟩
      obtain ⟨g0, g1, g2⟩ := (fin_m hB HK7 r7 D7 hD5 (.int .i64 1) (.string ⟨#[]⟩) _ rfl).2 (.deferred none)
      refine ⟨_, by simp [results, Tryd.results20, go_sem, g0, g1]; rfl, ?_⟩
      exact ⟨by rw [eV]; rfl, g2⟩
    have hr0 : ((row.length : Int) == 0) = false := by simpa using q3
    have HJ := im_join W h4 q3 (fun p h => ((show ∀ p ∈ row, _ from HP60) p h).1) (by omega)
    have hjl := jn_len (R := row) (fun p h => ((show ∀ p ∈ row, _ from HP60) p h).1)
    rw [if_neg q3] at EV
    have HCL := fun W => im_clone (jn row) (by omega) W
    have hjs : (bt (jn row)).size = (jn row).length := bt_size _
    clear HP60 h4 q3
    gi_wp2_with fail
    refine ⟨trivial, (callsIn_wide.2 HJ).mono ?_⟩
    rintro e W6 ⟨rfl, k6⟩
    gi_wp2_with fail
    refine ⟨trivial, (callsIn_wide.2 (HCL W6)).mono ?_⟩
    rintro e W7 ⟨rfl, k7⟩
    have HIX : Hid (KB B w W7 ∧ W7.heap[w.heap.size + 1]? = some (.cells #[.int .i64 0, .string ⟨#[]⟩] 23 (0, 0)) ∧ W7.heap[D]? = some (.deferred (some []))) := (by
      obtain ⟨x1, x2, x3⟩ := (show _ ∧ _ ∧ _ from HIW)
      have kk := k6.trans k7
      exact ⟨x1.trans ⟨kk.os, kk.output, kk.size, fun i hi => kk.block i (Nat.zero_le _) (by omega)⟩, (kk.block _ (Nat.zero_le _) (by omega)).trans x2, (kk.block _ (Nat.zero_le _) (Array.getElem?_eq_some_iff.1 x3).1).trans x3⟩ : _ ∧ _ ∧ _)
    obtain ⟨-, r7', -⟩ := (show _ ∧ _ ∧ _ from HIX)
    have d1 : W7.cell? ⟨w.heap.size + 1, 0, none⟩ = some (.int .i64 0) := cell_of r7' rfl
    have d2 : W7.cell? ⟨w.heap.size + 1, 1, none⟩ = some (.string ⟨#[]⟩) := cell_of r7' rfl
    have d3 : ∀ j, W7.frozen? ⟨w.heap.size + 1, j, none⟩ = false := fun j => frozen_of r7'
    clear HIW HJ HCL k6 k7 c0 c1 c2 f1 r7'
    obtain ⟨J, hJ⟩ : ∃ J, J = jn row := ⟨_, rfl⟩
    rw [← hJ] at EV hjs hjl ⊢
    have hJI : (J.length : Int) ≤ 100000 := by omega
    by_cases j60 : 60 < J.length
    · have jI : (J.length : Int) > 60 := by omega
      have eV : cln R l = (3, []) := by rw [EV, if_pos j60]
      clear EV hJ
      gi_wp2_with fail
      obtain ⟨HK7, r7, D7⟩ := (show _ ∧ _ ∧ _ from HIX)
      refine ⟨by simp, .inl ⟨D, _, rfl, run_takeDeferred (fin_m hB HK7 r7 D7 hD5 _ _ _ rfl).1, ?_⟩⟩
      obtain ⟨g0, g1, g2⟩ := (fin_m hB HK7 r7 D7 hD5 (.int .i64 3) (.string ⟨#[]⟩) _ rfl).2 (.deferred none)
      refine ⟨_, by simp [results, Tryd.results20, go_sem, g0, g1]; rfl, ?_⟩
      exact ⟨by rw [eV]; rfl, g2⟩
    have jI : ¬ (J.length : Int) > 60 := by omega
    have eV : cln R l = (0, J) := by rw [EV, if_neg j60]
    clear EV hJ
    gi_wp2_with fail
    obtain ⟨HK7, r7, D7⟩ := (show _ ∧ _ ∧ _ from HIX)
    refine ⟨by simp, .inl ⟨D, _, rfl, run_takeDeferred (fin_m hB HK7 r7 D7 hD5 _ _ _ rfl).1, ?_⟩⟩
    obtain ⟨g0, g1, g2⟩ := (fin_m hB HK7 r7 D7 hD5 (.int .i64 0) (.string (bt J)) _ rfl).2 (.deferred none)
    refine ⟨_, by simp [results, Tryd.results20, go_sem, g0, g1]; rfl, ?_⟩
    exact ⟨by rw [eV]; rfl, g2⟩
  case stop =>
    intro D pre W hD5 hi hD
    rw [z6] at hD5
    have eV : cln R l = ((wst R (spB l)).1, []) := by rw [cln, if_neg h60, if_pos hi.res.1]
    obtain ⟨g0, g1, g2⟩ := fin_n hB hi.kb hi.res.2 hD5 (.deferred none)
    clear hbx hi5 z5 hp hne z6
    gi_wp2_with fail
    refine ⟨by simp, .inl ⟨D, _, rfl, run_takeDeferred hD, ?_⟩⟩
    refine ⟨_, by simp [results, Tryd.results20, go_sem, g0, g1]; rfl, ?_⟩
    exact ⟨by rw [eV]; rfl, g2⟩
end Go.Proofs.YtgocahalfanpjaaDoor.Fo
