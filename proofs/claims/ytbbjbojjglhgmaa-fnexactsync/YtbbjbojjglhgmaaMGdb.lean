import Derived.Deep.AppendLies
import Derived.Test.YtbbjbojjglhgmaaMGda
namespace Go.Proofs.Ytbbjbojjglhgmaa.Fo
open Go.ChangeShapes Go.WideShapes Go.ChangeAt Go.RowKit
set_option linter.unusedVariables false
set_option maxRecDepth 100000
theorem infoI : (Try.prog.info? 3).map (fun i => (i.zero, i.size, i.bytes)) = some (some (.int .i64 0), 1, 8) := by kernel_rfl
theorem info_parts {t : TypeId} {z : Value} {s b : Nat} (h : (Try.prog.info? t).map (fun i => (i.zero, i.size, i.bytes)) = some (some z, s, b)) : ∃ i, Try.prog.info? t = some i ∧ i.zero = some z ∧ i.size = s ∧ i.bytes = b := by
  obtain ⟨i, h1, h2⟩ := Option.map_eq_some_iff.1 h
  simp only [Prod.mk.injEq] at h2
  exact ⟨i, h1, h2.1, h2.2.1, h2.2.2⟩
theorem qr_cells (w : World) (c : Array Value) (t : TypeId) (l : List Value) (hl : c.toList = l) : ∀ j u, l[j]? = some u → (w.alloc (.cells c t)).cell? ((⟨w.heap.size, 0, none⟩ : Addr).add j) = some u := by
  intro j u hj
  subst hl
  rw [addr0, World.cell?_alloc_mark]
  simpa using hj
abbrev ivs (o : List Int) : List Value := o.map (fun x => Value.int .i64 x)
theorem own_shape {W : World} {B t s n : Nat} {v : Value} {l : List Value} (h : W.ownsRow B t s v n l) : ∃ (ad : Option Addr) (cap : Nat), v = .slice ad n cap := by
  rcases h.2 with ⟨h1, e⟩ | ⟨g, cap, cur, rfl, _⟩
  · exact ⟨none, 0, by rw [e]; exact h1⟩
  · exact ⟨_, cap, rfl⟩
/-- an owned row stays where its block stays -/
theorem own_keep {W W' : World} {B t s n : Nat} {v : Value} {l : List Value} (h : W.ownsRow B t s v n l) (hb : ∀ g, v.ownBlock = some g → W'.heap[g]? = W.heap[g]?) : W'.ownsRow B t s v n l := by
  refine ⟨h.1, ?_⟩
  rcases h.2 with h1 | ⟨g, cap, cur, h1, h2, h3, h4⟩
  · exact .inl h1
  · exact .inr ⟨g, cap, cur, h1, h2, (hb g (by rw [h1]; rfl)).trans h3, h4⟩
/-- four cells written in a row -/
def s4 (W : World) (B : Nat) (k m : Int) (x : ByteArray) (r : Int) : World := (((W.setCell ⟨B, 0, none⟩ (.int .i64 k)).setCell ⟨B, 1, none⟩ (.int .i64 m)).setCell ⟨B, 2, none⟩ (.string x)).setCell ⟨B, 3, none⟩ (.int .i64 r)
theorem s4_far {k : Nat} (W : World) (B : Nat) (a m : Int) (x : ByteArray) {r : Int} (h : k ≠ B) : (s4 W B a m x r).heap[k]? = W.heap[k]? := by
  unfold s4
  rw [Below.heap_setCell _ _ _ _ h, Below.heap_setCell _ _ _ _ h, Below.heap_setCell _ _ _ _ h, Below.heap_setCell _ _ _ _ h]
theorem s4_size (W : World) (B : Nat) (a m : Int) (x : ByteArray) (r : Int) : (s4 W B a m x r).heap.size = W.heap.size := by
  unfold s4
  simp
theorem s4_cells {W : World} {B : Nat} {u0 u1 u2 u3 : Value} (h0 : W.cell? ⟨B, 0, none⟩ = some u0) (h1 : W.cell? ⟨B, 1, none⟩ = some u1) (h2 : W.cell? ⟨B, 2, none⟩ = some u2) (h3 : W.cell? ⟨B, 3, none⟩ = some u3) (k m : Int) (x : ByteArray) (r : Int) : (s4 W B k m x r).cell? ⟨B, 0, none⟩ = some (.int .i64 k) ∧ (s4 W B k m x r).cell? ⟨B, 1, none⟩ = some (.int .i64 m) ∧ (s4 W B k m x r).cell? ⟨B, 2, none⟩ = some (.string x) ∧ (s4 W B k m x r).cell? ⟨B, 3, none⟩ = some (.int .i64 r) := by
  unfold s4
  refine ⟨?_, ?_, ?_, ?_⟩
  · rw [set_ne _ _ _ _ _ (by decide), set_ne _ _ _ _ _ (by decide), set_ne _ _ _ _ _ (by decide)]; exact set_eq _ _ _ _ _ h0
  · rw [set_ne _ _ _ _ _ (by decide), set_ne _ _ _ _ _ (by decide)]; exact set_eq _ _ _ _ _ ((set_ne _ _ _ _ _ (by decide)).trans h1)
  · rw [set_ne _ _ _ _ _ (by decide)]; exact set_eq _ _ _ _ _ ((set_ne _ _ _ _ _ (by decide)).trans ((set_ne _ _ _ _ _ (by decide)).trans h2))
  · exact set_eq _ _ _ _ _ ((set_ne _ _ _ _ _ (by decide)).trans ((set_ne _ _ _ _ _ (by decide)).trans ((set_ne _ _ _ _ _ (by decide)).trans h3)))
set_option maxHeartbeats 8000000 in
theorem sp_ren {v : Gv} {G n B : Nat} {o : List Int} {vo : Value} (w : World) (hw : Wh G n o w) (hG : G < B) (hB : B ≤ w.heap.size) (ho : w.ownsRow B 3 1 vo o.length (ivs o)) (hv : v.k = 4 → 0 ≤ v.r ∧ v.r < (n : Int)) (hn : n ≤ 1048576) (hl : o.length ≤ 1048576) :
    Calls Try.prog 155 #[gvv v, .slice (some ⟨G, 0, none⟩) n n, vo] w fun e w' => ∃ vo', e = .returned (.tuple #[gvv (rnm (ext o v) v), vo']) ∧ Wh G n (ext o v) w' ∧ w'.ownsRow B 3 1 vo' (ext o v).length (ivs (ext o v)) ∧ Fo2 G vo.ownBlock w w' := by
  obtain ⟨ad, cap, rfl⟩ := own_shape ho
  have hnI : (n : Int) ≤ 1048576 := by omega
  obtain ⟨w2, hw2⟩ : ∃ w2, w2 = (w.alloc (.cells #[.int .i64 v.k, .int .i64 v.m, .string v.x, .int .i64 v.r] 24)).alloc (.cells #[.int .i64 0, .int .i64 0, .string ⟨#[]⟩, .int .i64 0] 24) := ⟨_, rfl⟩
  have k2 : Kb 0 w w2 := by rw [hw2]; exact kb_alloc2 _ _ _ _
  have z2 : w2.heap.size = w.heap.size + 2 := by rw [hw2]; simp
  have b0 : w2.heap[w.heap.size]? = some (.cells #[.int .i64 v.k, .int .i64 v.m, .string v.x, .int .i64 v.r] 24 (0, 0)) := by
    rw [hw2, (kb_alloc 0 _ _).block _ (Nat.zero_le _) (by rw [World.size_alloc]; omega)]
    exact alloc_new _ _ _
  have b1 : w2.heap[w.heap.size + 1]? = some (.cells #[.int .i64 0, .int .i64 0, .string ⟨#[]⟩, .int .i64 0] 24 (0, 0)) := by
    have e : (w.alloc (.cells #[.int .i64 v.k, .int .i64 v.m, .string v.x, .int .i64 v.r] 24)).heap.size = w.heap.size + 1 := World.size_alloc _ _
    rw [hw2, ← e]
    exact alloc_new _ _ _
  have HW2 : Hid (w2 = (w.alloc (.cells #[.int .i64 v.k, .int .i64 v.m, .string v.x, .int .i64 v.r] 24)).alloc (.cells #[.int .i64 0, .int .i64 0, .string ⟨#[]⟩, .int .i64 0] 24)) := hw2
  unfold gvv
  by_cases h4 : v.k = 4
  case neg =>
    have e1 : ext o v = o := by unfold ext; rw [if_neg h4]
    have e2 : rnm o v = v := by unfold rnm; rw [if_neg h4]
    rw [e1, e2]
    have g4 : (v.k != 4) = true := by simp [h4]
    have g4b : (v.k == 4) = false := bne h4
    have hgl : G < w.heap.size := by omega
    have HP : Hid (∀ W, (∀ k, k < w.heap.size → W.heap[k]? = w.heap[k]?) → W.os = w.os → W.output = w.output → w.heap.size ≤ W.heap.size → Wh G n o W ∧ W.ownsRow B 3 1 (.slice ad o.length cap) o.length (ivs o) ∧ Fo2 G (Value.slice ad o.length cap).ownBlock w W) := (fun W h1 h2 h3 h5 => ⟨hw.keep (h1 G hgl), own_keep ho (fun g e => h1 g (ho.lt g e).2), ⟨h2, h3, h5, fun k hk _ _ => h1 k hk⟩⟩ : ∀ W, _)
    have a0 : w2.cell? ⟨w.heap.size + 1, 0, none⟩ = some (.int .i64 0) := cell_of b1 rfl
    clear hw ho hv hl hgl k2 z2 b0 b1 hw2 e1 e2 h4 a0
    go_enter Try.func155, Try.ntmps155
    go_wp2_with fail
    refine bodyPost_ret (by simp [results, Try.results155, go_sem]; rfl) rfl ?_
    have kk := fun a b => kb_alloc2 0 w a b
    exact ⟨_, rfl, (show ∀ W, _ from HP) _ (fun k hk => (kk _ _).block k (Nat.zero_le _) hk) (kk _ _).os (kk _ _).output (kk _ _).size⟩
  obtain ⟨hr0, hr1⟩ := hv h4
  obtain ⟨r, hr⟩ : ∃ r : Nat, v.r = (r : Int) := ⟨v.r.toNat, by omega⟩
  have hrn : r < n := by omega
  have hrI : (r : Int) < (n : Int) := by omega
  have hgl : G < w.heap.size := by omega
  have cw : w2.cell? ⟨G, r, none⟩ = some (.int .i64 (wh o r)) := k2.cell (hw.1 r hrn)
  have y0 : w2.cell? ⟨w.heap.size, 0, none⟩ = some (.int .i64 4) := by rw [← h4]; exact cell_of b0 rfl
  have y1 : w2.cell? ⟨w.heap.size, 1, none⟩ = some (.int .i64 v.m) := cell_of b0 rfl
  have y2 : w2.cell? ⟨w.heap.size, 2, none⟩ = some (.string v.x) := cell_of b0 rfl
  have y3 : w2.cell? ⟨w.heap.size, 3, none⟩ = some (.int .i64 (r : Int)) := by rw [← hr]; exact cell_of b0 rfl
  have yz : ∀ j, w2.frozen? ⟨w.heap.size, j, none⟩ = false := fun j => frozen_of b0
  rw [h4, hr] at HW2
  have erm : ∀ o', rnm o' v = ⟨4, v.m, v.x, (o'.idxOf (r : Int) : Int)⟩ := fun o' => by unfold rnm; rw [if_pos h4, h4, hr]
  rw [erm]
  by_cases hm : (r : Int) ∈ o
  · have e1 : ext o v = o := by unfold ext; rw [if_pos h4, hr, if_pos hm]
    rw [e1, h4, hr]
    have ewh : wh o r = (o.idxOf (r : Int) : Int) := by unfold wh; rw [if_pos hm]
    rw [ewh] at cw
    have yw : w2.cell? ⟨G, r, none⟩ = some (.int .i64 (o.idxOf (r : Int) : Int)) := cw
    obtain ⟨ix, hix⟩ : ∃ ix, ix = o.idxOf (r : Int) := ⟨_, rfl⟩
    rw [← hix] at yw
    rw [← hix]
    have hix0 : ¬ (ix : Int) < 0 := by omega
    have HP : Hid (∀ W, (∀ k, k < w.heap.size → W.heap[k]? = w2.heap[k]?) ∧ W.os = w2.os ∧ W.output = w2.output ∧ W.heap.size = w2.heap.size → Wh G n o W ∧ W.ownsRow B 3 1 (.slice ad o.length cap) o.length (ivs o) ∧ Fo2 G (Value.slice ad o.length cap).ownBlock w W) := (fun W ⟨h1, h2, h3, h5⟩ => by
      have e : ∀ k, k < w.heap.size → W.heap[k]? = w.heap[k]? := fun k hk => (h1 k hk).trans (k2.block k (Nat.zero_le _) hk)
      exact ⟨hw.keep (e G hgl), own_keep ho (fun g e' => e g (ho.lt g e').2), ⟨h2.trans k2.os, h3.trans k2.output, by omega, fun k hk _ _ => e k hk⟩⟩ : ∀ W, _)
    have HB1 : Hid (w2.heap[w.heap.size + 1]? = some (.cells #[.int .i64 0, .int .i64 0, .string ⟨#[]⟩, .int .i64 0] 24 (0, 0))) := b1
    clear hw ho hv hl hgl k2 z2 b0 b1 hw2 e1 h4 cw ewh hix hm hr0 hr1 hr erm hrn
    go_enter Try.func155, Try.ntmps155
    go_upto_region 3 with fail
    rw [← (show w2 = _ from HW2)]
    clear HW2
    go_upto_region 6 with fail
    have b1 := (show w2.heap[w.heap.size + 1]? = _ from HB1)
    obtain ⟨Y2, hY2⟩ : ∃ Y2, Y2 = w2.setCell ⟨w.heap.size, 3, none⟩ (.int .i64 (ix : Int)) := ⟨_, rfl⟩
    have f0 : Y2.cell? ⟨w.heap.size, 0, none⟩ = some (.int .i64 4) := by rw [hY2, set_ne _ _ _ _ _ (by decide)]; exact y0
    have f1 : Y2.cell? ⟨w.heap.size, 1, none⟩ = some (.int .i64 v.m) := by rw [hY2, set_ne _ _ _ _ _ (by decide)]; exact y1
    have f2 : Y2.cell? ⟨w.heap.size, 2, none⟩ = some (.string v.x) := by rw [hY2, set_ne _ _ _ _ _ (by decide)]; exact y2
    have f3 : Y2.cell? ⟨w.heap.size, 3, none⟩ = some (.int .i64 (ix : Int)) := by rw [hY2]; exact set_eq _ _ _ _ _ y3
    have hbl : Y2.heap[w.heap.size + 1]? = w2.heap[w.heap.size + 1]? := by rw [hY2]; exact Below.heap_setCell _ _ _ _ (show w.heap.size + 1 ≠ w.heap.size by omega)
    have HKY : Hid (∀ k, k ≠ w.heap.size → Y2.heap[k]? = w2.heap[k]?) := (fun k hk => by rw [hY2]; exact Below.heap_setCell _ _ _ _ hk : ∀ k, _)
    have HSY : Hid (Y2.os = w2.os ∧ Y2.output = w2.output ∧ Y2.heap.size = w2.heap.size) := (⟨by rw [hY2]; rfl, by rw [hY2]; rfl, by rw [hY2]; simp⟩ : _ ∧ _)
    have q0 : Y2.cell? ⟨w.heap.size + 1, 0, none⟩ = some (.int .i64 0) := (World.cell?_of_block hbl).trans (cell_of b1 rfl)
    have q1 : Y2.cell? ⟨w.heap.size + 1, 1, none⟩ = some (.int .i64 0) := (World.cell?_of_block hbl).trans (cell_of b1 rfl)
    have q2 : Y2.cell? ⟨w.heap.size + 1, 2, none⟩ = some (.string ⟨#[]⟩) := (World.cell?_of_block hbl).trans (cell_of b1 rfl)
    have q3 : Y2.cell? ⟨w.heap.size + 1, 3, none⟩ = some (.int .i64 0) := (World.cell?_of_block hbl).trans (cell_of b1 rfl)
    have qz : ∀ j, Y2.frozen? ⟨w.heap.size + 1, j, none⟩ = false := fun j => (World.frozen?_of_block hbl).trans (frozen_of b1)
    have HY2 : Hid (Y2 = w2.setCell ⟨w.heap.size, 3, none⟩ (.int .i64 (ix : Int))) := hY2
    clear hY2 hbl
    go_upto_region 7 with fail
    rw [← (show Y2 = _ from HY2)]
    clear HY2 y0 y1 y2 y3 yz yw
    go_wp2_with fail
    obtain ⟨e0, e1, e2, e3⟩ := s4_cells (B := w.heap.size + 1) q0 q1 q2 q3 (4 : Int) v.m v.x (ix : Int)
    have HF : Hid ((∀ k, k ≠ w.heap.size → k ≠ w.heap.size + 1 → (s4 Y2 (w.heap.size + 1) 4 v.m v.x (ix : Int)).heap[k]? = w2.heap[k]?) ∧ (s4 Y2 (w.heap.size + 1) 4 v.m v.x (ix : Int)).os = w2.os ∧ (s4 Y2 (w.heap.size + 1) 4 v.m v.x (ix : Int)).output = w2.output ∧ (s4 Y2 (w.heap.size + 1) 4 v.m v.x (ix : Int)).heap.size = w2.heap.size) := (⟨fun k hk hk2 => (s4_far _ _ _ _ _ hk2).trans ((show ∀ k, k ≠ w.heap.size → _ from HKY) k hk), (show _ ∧ _ ∧ _ from HSY).1, (show _ ∧ _ ∧ _ from HSY).2.1, (s4_size _ _ _ _ _ _).trans (show _ ∧ _ ∧ _ from HSY).2.2⟩ : _ ∧ _)
    obtain ⟨WF, hWF⟩ : ∃ WF, WF = s4 Y2 (w.heap.size + 1) 4 v.m v.x (ix : Int) := ⟨_, rfl⟩
    rw [← hWF] at e0 e1 e2 e3 HF
    have hWF' := hWF
    unfold s4 at hWF'
    rw [← hWF']
    clear hWF hWF'
    refine bodyPost_ret (by simp [results, Try.results155, go_sem, e0, e1, e2, e3]; rfl) rfl ?_
    obtain ⟨z1, z2, z3, z4⟩ := (show (∀ k, k ≠ w.heap.size → k ≠ w.heap.size + 1 → WF.heap[k]? = _) ∧ _ ∧ _ ∧ _ from HF)
    exact ⟨_, rfl, (show ∀ W, _ from HP) WF ⟨fun k hk => z1 k (by omega) (by omega), z2, z3, z4⟩⟩
  have e1 : ext o v = o ++ [(r : Int)] := by unfold ext; rw [if_pos h4, hr, if_neg hm]
  rw [e1, h4, hr]
  have eix : (o ++ [(r : Int)]).idxOf (r : Int) = o.length := by rw [List.idxOf_append, if_neg hm]; simp
  rw [eix]
  have ewh : wh o r = -1 := by unfold wh; rw [if_neg hm]
  rw [ewh] at cw
  obtain ⟨i0, hi0, hz0, hz1, hz2⟩ := info_parts infoI
  have HI0 : Hid (Try.prog.info? 3 = some i0) := hi0
  obtain ⟨W3, hW3⟩ : ∃ W3, W3 = w2.setCell ⟨G, r, none⟩ (.int .i64 (o.length : Int)) := ⟨_, rfl⟩
  have hfw : w2.frozen? ⟨G, r, none⟩ = false := (k2.frozen (Nat.zero_le _) hgl).trans (hw.2 r)
  have hbk : ∀ k, k ≠ G → W3.heap[k]? = w2.heap[k]? := fun k hk => by rw [hW3]; exact Below.heap_setCell _ _ _ _ hk
  have hgs : ∀ g, (Value.slice ad o.length cap).ownBlock = some g → B ≤ g ∧ g < w.heap.size := fun g e => ho.lt g e
  have ho3 : W3.ownsRow B 3 1 (.slice ad o.length cap) o.length (ivs o) := own_keep ho (fun g e => (hbk g (by have := (hgs g e).1; omega)).trans (k2.block g (Nat.zero_le _) (hgs g e).2))
  have hwh3 : Wh G n (o ++ [(r : Int)]) W3 := by
    rw [hW3]
    exact (hw.keep (k2.block G (Nat.zero_le _) hgl)).app hrn hm
  have z3 : W3.heap.size = w2.heap.size := by rw [hW3]; simp
  have c0 : W3.heap[w.heap.size]? = w2.heap[w.heap.size]? := hbk _ (by omega)
  have c1' : W3.heap[w.heap.size + 1]? = w2.heap[w.heap.size + 1]? := hbk _ (by omega)
  have HW3 : Hid (W3 = w2.setCell ⟨G, r, none⟩ (.int .i64 (o.length : Int))) := hW3
  have HO3 : Hid (W3.os = w.os ∧ W3.output = w.output) := (⟨by rw [hW3]; exact k2.os, by rw [hW3]; exact k2.output⟩ : _ ∧ _)
  have x0 : W3.cell? ⟨w.heap.size, 0, none⟩ = some (.int .i64 4) := (World.cell?_of_block c0).trans y0
  have x3 : W3.cell? ⟨w.heap.size, 3, none⟩ = some (.int .i64 (r : Int)) := (World.cell?_of_block c0).trans y3
  have howna : ∀ a : Obj, (W3.alloc a).ownsRow B 3 1 (.slice ad o.length cap) o.length (ivs o) := fun a => ho3.alloc a
  have hqc : ∀ (j : Nat) (u : Value), ([.int .i64 (r : Int)] : List Value)[j]? = some u → (W3.alloc (.cells #[.int .i64 (r : Int)] 3)).cell? ((⟨W3.heap.size, 0, none⟩ : Addr).add j) = some u := qr_cells W3 #[.int .i64 (r : Int)] 3 [.int .i64 (r : Int)] rfl
  have h1c : ∀ u ∈ ([.int .i64 (r : Int)] : List Value), u.oneCell' = true := by intro u hu; simp at hu; subst hu; rfl
  have hbs : B ≤ W3.heap.size := by omega
  have HSTP : Hid (∀ (ob : Obj) (v' : Value) (w5 : World), w5.ownsRow B 3 1 v' (o.length + 1) (ivs o ++ [.int .i64 (r : Int)]) → (W3.alloc ob).grownBy w5 (Value.slice ad o.length cap).ownBlock → (w5.ownsRow B 3 1 v' (o ++ [(r : Int)]).length (ivs (o ++ [(r : Int)])) ∧ Wh G n (o ++ [(r : Int)]) w5 ∧ w5.heap[w.heap.size]? = some (.cells #[.int .i64 4, .int .i64 v.m, .string v.x, .int .i64 (r : Int)] 24 (0, 0)) ∧ w5.heap[w.heap.size + 1]? = some (.cells #[.int .i64 0, .int .i64 0, .string ⟨#[]⟩, .int .i64 0] 24 (0, 0)) ∧ w5.cell? ⟨G, r, none⟩ = some (.int .i64 (o.length : Int))) ∧ Fo2 G (Value.slice ad o.length cap).ownBlock w w5 ∧ w.heap.size + 2 ≤ w5.heap.size) := (fun ob v' w5 hown hgr => by
    have hs := hgr.size
    rw [World.size_alloc] at hs
    have kk : ∀ k, k < W3.heap.size → some k ≠ (Value.slice ad o.length cap).ownBlock → w5.heap[k]? = W3.heap[k]? := fun k hk hne => (hgr.block k (by rw [World.size_alloc]; omega) hne).trans ((kb_alloc 0 W3 ob).block k (Nat.zero_le _) hk)
    have hneG : some G ≠ (Value.slice ad o.length cap).ownBlock := fun e => by have := (hgs G e.symm).1; omega
    have hneX : ∀ k, w.heap.size ≤ k → some k ≠ (Value.slice ad o.length cap).ownBlock := fun k hk e => by have := (hgs k e.symm).2; omega
    have hw5 : Wh G n (o ++ [(r : Int)]) w5 := hwh3.keep (kk G (by omega) hneG)
    refine ⟨⟨?_, hw5, ?_, ?_, ?_⟩, ⟨?_, ?_, by omega, fun k hk h1 h2 => ?_⟩, by omega⟩
    · rw [List.length_append]
      unfold ivs
      rw [List.map_append]
      exact hown
    · rw [kk _ (by omega) (hneX _ (Nat.le_refl _)), c0, b0, h4, hr]
    · rw [kk _ (by omega) (hneX _ (by omega)), c1']
      exact b1
    · have := hw5.1 r hrn
      rw [wh_app hm, if_pos rfl] at this
      exact this
    · exact (hgr.os.trans (kb_alloc 0 W3 ob).os).trans (show _ ∧ _ from HO3).1
    · exact (hgr.output.trans (kb_alloc 0 W3 ob).output).trans (show _ ∧ _ from HO3).2
    · exact ((kk k (by omega) h2).trans (hbk k h1)).trans (k2.block k (Nat.zero_le _) hk) : ∀ (ob : Obj) (v' : Value) (w5 : World), _)
  obtain ⟨L, hL⟩ : ∃ L, L = o.length := ⟨_, rfl⟩
  obtain ⟨LV, hLV⟩ : ∃ LV, LV = ivs o := ⟨_, rfl⟩
  rw [← hL] at hl
  rw [← hL, ← hLV] at howna
  rw [← hL] at HW3
  rw [← hL]
  have HSTQ : Hid (∀ (ob : Obj) (v' : Value) (w5 : World), w5.ownsRow B 3 1 v' (L + 1) (LV ++ [.int .i64 (r : Int)]) → (W3.alloc ob).grownBy w5 (Value.slice ad L cap).ownBlock → (w5.ownsRow B 3 1 v' (o ++ [(r : Int)]).length (ivs (o ++ [(r : Int)])) ∧ Wh G n (o ++ [(r : Int)]) w5 ∧ w5.heap[w.heap.size]? = some (.cells #[.int .i64 4, .int .i64 v.m, .string v.x, .int .i64 (r : Int)] 24 (0, 0)) ∧ w5.heap[w.heap.size + 1]? = some (.cells #[.int .i64 0, .int .i64 0, .string ⟨#[]⟩, .int .i64 0] 24 (0, 0)) ∧ w5.cell? ⟨G, r, none⟩ = some (.int .i64 (L : Int))) ∧ Fo2 G (Value.slice ad L cap).ownBlock w w5 ∧ w.heap.size + 2 ≤ w5.heap.size) := by
    rw [hL, hLV]; exact HSTP
  have hLI : (L : Int) ≤ 1048576 := by omega
  clear hw ho hv hgl k2 z2 b0 b1 hw2 e1 h4 ewh eix hm hr0 hr1 hr erm hrn hW3 hbk hgs ho3 hwh3 z3 c0 c1' HO3 HSTP hL hLV hi0
  go_enter Try.func155, Try.ntmps155
  go_upto_region 3 with fail
  rw [← (show w2 = _ from HW2)]
  clear HW2
  go_upto_region 5 with fail
  rw [← (show W3 = _ from HW3)]
  clear HW3 cw hfw y0 y1 y2 y3 yz
  go_upto_region 6 with (at_builtin; refine wpList_append_own _ rfl (.tmp 25) (.tmp 28) 179 rfl B 3 i0 (.int .i64 0) 1 8 Try.underlying179 HI0 hz0 hz1 hz2 rfl (by decide) _ _ _ rfl (howna _) ⟨W3.heap.size, 0, none⟩ 1 1 [.int .i64 (r : Int)] rfl rfl hqc h1c (by unfold maxLen; omega) (by omega) (by simp; omega) ?_; intro v' w5 hown1 hgrow1 _; obtain ⟨⟨p1, p2, c0, c1, yw⟩, p3, p4⟩ := (show ∀ (ob : Obj) (v' : Value) (w5 : World), _ from HSTQ) _ _ _ hown1 hgrow1; clear HSTQ hown1 hgrow1 howna hqc h1c x0 x3)
  have HEND : Hid (w5.ownsRow B 3 1 v' (o ++ [(r : Int)]).length (ivs (o ++ [(r : Int)])) ∧ Wh G n (o ++ [(r : Int)]) w5 ∧ Fo2 G (Value.slice ad L cap).ownBlock w w5 ∧ w.heap.size + 2 ≤ w5.heap.size ∧ w5.heap[w.heap.size]? = some (.cells #[.int .i64 4, .int .i64 v.m, .string v.x, .int .i64 (r : Int)] 24 (0, 0)) ∧ w5.heap[w.heap.size + 1]? = some (.cells #[.int .i64 0, .int .i64 0, .string ⟨#[]⟩, .int .i64 0] 24 (0, 0)) ∧ G < w.heap.size) := (⟨p1, p2, p3, p4, c0, c1, by omega⟩ : _ ∧ _)
  have y0 : w5.cell? ⟨w.heap.size, 0, none⟩ = some (.int .i64 4) := cell_of c0 rfl
  have y1 : w5.cell? ⟨w.heap.size, 1, none⟩ = some (.int .i64 v.m) := cell_of c0 rfl
  have y2 : w5.cell? ⟨w.heap.size, 2, none⟩ = some (.string v.x) := cell_of c0 rfl
  have y3 : w5.cell? ⟨w.heap.size, 3, none⟩ = some (.int .i64 (r : Int)) := cell_of c0 rfl
  have yz : ∀ j, w5.frozen? ⟨w.heap.size, j, none⟩ = false := fun j => frozen_of c0
  clear p1 p2 p3 p4
  obtain ⟨Y2, hY2⟩ : ∃ Y2, Y2 = w5.setCell ⟨w.heap.size, 3, none⟩ (.int .i64 (L : Int)) := ⟨_, rfl⟩
  have f0 : Y2.cell? ⟨w.heap.size, 0, none⟩ = some (.int .i64 4) := by rw [hY2, set_ne _ _ _ _ _ (by decide)]; exact y0
  have f1 : Y2.cell? ⟨w.heap.size, 1, none⟩ = some (.int .i64 v.m) := by rw [hY2, set_ne _ _ _ _ _ (by decide)]; exact y1
  have f2 : Y2.cell? ⟨w.heap.size, 2, none⟩ = some (.string v.x) := by rw [hY2, set_ne _ _ _ _ _ (by decide)]; exact y2
  have f3 : Y2.cell? ⟨w.heap.size, 3, none⟩ = some (.int .i64 (L : Int)) := by rw [hY2]; exact set_eq _ _ _ _ _ y3
  have hbl : Y2.heap[w.heap.size + 1]? = w5.heap[w.heap.size + 1]? := by rw [hY2]; exact Below.heap_setCell _ _ _ _ (show w.heap.size + 1 ≠ w.heap.size by omega)
  have HKY : Hid (∀ k, k ≠ w.heap.size → Y2.heap[k]? = w5.heap[k]?) := (fun k hk => by rw [hY2]; exact Below.heap_setCell _ _ _ _ hk : ∀ k, _)
  have HSY : Hid (Y2.os = w5.os ∧ Y2.output = w5.output ∧ Y2.heap.size = w5.heap.size) := (⟨by rw [hY2]; rfl, by rw [hY2]; rfl, by rw [hY2]; simp⟩ : _ ∧ _)
  have q0 : Y2.cell? ⟨w.heap.size + 1, 0, none⟩ = some (.int .i64 0) := (World.cell?_of_block hbl).trans (cell_of c1 rfl)
  have q1 : Y2.cell? ⟨w.heap.size + 1, 1, none⟩ = some (.int .i64 0) := (World.cell?_of_block hbl).trans (cell_of c1 rfl)
  have q2 : Y2.cell? ⟨w.heap.size + 1, 2, none⟩ = some (.string ⟨#[]⟩) := (World.cell?_of_block hbl).trans (cell_of c1 rfl)
  have q3 : Y2.cell? ⟨w.heap.size + 1, 3, none⟩ = some (.int .i64 0) := (World.cell?_of_block hbl).trans (cell_of c1 rfl)
  have qz : ∀ j, Y2.frozen? ⟨w.heap.size + 1, j, none⟩ = false := fun j => (World.frozen?_of_block hbl).trans (frozen_of c1)
  have HY2 : Hid (Y2 = w5.setCell ⟨w.heap.size, 3, none⟩ (.int .i64 (L : Int))) := hY2
  clear hY2 hbl
  go_upto_region 7 with fail
  rw [← (show Y2 = _ from HY2)]
  clear HY2 y0 y1 y2 y3 yz yw
  go_wp2_with fail
  obtain ⟨e0, e1, e2, e3⟩ := s4_cells (B := w.heap.size + 1) q0 q1 q2 q3 (4 : Int) v.m v.x (L : Int)
  have HF : Hid ((∀ k, k ≠ w.heap.size → k ≠ w.heap.size + 1 → (s4 Y2 (w.heap.size + 1) 4 v.m v.x (L : Int)).heap[k]? = w5.heap[k]?) ∧ (s4 Y2 (w.heap.size + 1) 4 v.m v.x (L : Int)).os = w5.os ∧ (s4 Y2 (w.heap.size + 1) 4 v.m v.x (L : Int)).output = w5.output ∧ (s4 Y2 (w.heap.size + 1) 4 v.m v.x (L : Int)).heap.size = w5.heap.size) := (⟨fun k hk hk2 => (s4_far _ _ _ _ _ hk2).trans ((show ∀ k, k ≠ w.heap.size → _ from HKY) k hk), (show _ ∧ _ ∧ _ from HSY).1, (show _ ∧ _ ∧ _ from HSY).2.1, (s4_size _ _ _ _ _ _).trans (show _ ∧ _ ∧ _ from HSY).2.2⟩ : _ ∧ _)
  obtain ⟨WF, hWF⟩ : ∃ WF, WF = s4 Y2 (w.heap.size + 1) 4 v.m v.x (L : Int) := ⟨_, rfl⟩
  rw [← hWF] at e0 e1 e2 e3 HF
  have hWF' := hWF
  unfold s4 at hWF'
  rw [← hWF']
  clear hWF hWF'
  refine bodyPost_ret (by simp [results, Try.results155, go_sem, e0, e1, e2, e3]; rfl) rfl ?_
  obtain ⟨z1, z2, z3, z4⟩ := (show (∀ k, k ≠ w.heap.size → k ≠ w.heap.size + 1 → WF.heap[k]? = _) ∧ _ ∧ _ ∧ _ from HF)
  obtain ⟨p1, p2, p3, p4, d0, d1, hG2⟩ := (show w5.ownsRow B 3 1 v' (o ++ [(r : Int)]).length (ivs (o ++ [(r : Int)])) ∧ Wh G n (o ++ [(r : Int)]) w5 ∧ Fo2 G (Value.slice ad L cap).ownBlock w w5 ∧ w.heap.size + 2 ≤ w5.heap.size ∧ _ ∧ _ ∧ G < w.heap.size from HEND)
  have hty : ∀ g, v'.ownBlock = some g → g ≠ w.heap.size ∧ g ≠ w.heap.size + 1 := fun g e => by
    rcases p1.2 with ⟨q, _⟩ | ⟨g', cp, cur, q1, q2, q3, q4⟩
    · rw [q] at e; cases e
    · rw [q1] at e
      have e' : g' = g := Option.some.inj e
      subst e'
      refine ⟨fun (h : g' = _) => ?_, fun (h : g' = _) => ?_⟩ <;> (rw [h] at q3; first | (rw [d0] at q3; injection q3 with q3; injection q3 with _ q3; exact absurd q3 (by decide)) | (rw [d1] at q3; injection q3 with q3; injection q3 with _ q3; exact absurd q3 (by decide)))
  exact ⟨_, rfl, p2.keep (z1 G (by omega) (by omega)), own_keep p1 (fun g e => z1 g (hty g e).1 (hty g e).2), ⟨z2.trans p3.os, z3.trans p3.output, by have := p3.size; omega, fun k hk h1 h2 => (z1 k (by omega) (by omega)).trans (p3.block k hk h1 h2)⟩⟩
end Go.Proofs.Ytbbjbojjglhgmaa.Fo
