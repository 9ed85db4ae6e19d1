import Derived.Laws.AppendOwn
import Derived.Test.YtamcnmnaadpfoaaMGph
namespace Go.Proofs.Ytamcnmnaadpfoaa.Fo
open Go.ChangeShapes Go.WideShapes Go.ChangeAt Go.RowKit
set_option linter.unusedVariables false
set_option maxRecDepth 100000
/-- only block b is written, and nothing is made -/
structure Kz (b : Nat) (W w' : World) : Prop where
  os : w'.os = W.os
  output : w'.output = W.output
  size : w'.heap.size = W.heap.size
  block : ∀ k, k ≠ b → w'.heap[k]? = W.heap[k]?
theorem Kz.set {b : Nat} {W w' : World} (h : Kz b W w') (j : Nat) (v : Value) : Kz b W (w'.setCell ⟨b, j, none⟩ v) :=
  ⟨h.os, h.output, by simp [World.setCell, h.size], fun k hk => (Below.heap_setCell _ _ _ _ hk).trans (h.block k hk)⟩
theorem Kz.refl (b : Nat) (W : World) : Kz b W W := ⟨rfl, rfl, rfl, fun _ _ => rfl⟩
set_option maxHeartbeats 4000000 in
theorem ps_lost {W : World} {b : Nat} {im : Value} (lf n : Int) (h : W.heap[b]? = some (.cells #[im, .int .i64 lf, .bool true] 99 (0, 0))) :
    Calls Try.prog 78 #[.pointer (some ⟨b, 0, none⟩), .int .i64 n] W fun e w' => e = .returned (.bool false) ∧ w'.heap[b]? = some (.cells #[im, .int .i64 lf, .bool true] 99 (0, 0)) ∧ Kz b W w' := by
  have c1 : W.cell? ⟨b, 1, none⟩ = some (.int .i64 lf) := cell_of h rfl
  have c2 : W.cell? ⟨b, 2, none⟩ = some (.bool true) := cell_of h rfl
  have f1 : W.frozen? ⟨b, 1, none⟩ = false := frozen_of h
  have f2 : W.frozen? ⟨b, 2, none⟩ = false := frozen_of h
  have HH : Hid (W.heap[b]? = some (.cells #[im, .int .i64 lf, .bool true] 99 (0, 0))) := h
  clear h
  go_enter Try.func78, Try.ntmps78
  go_wp2_with fail
  go_ret
  exact ⟨rfl, by rw [set_known _ (show W.heap[b]? = _ from HH)]; rfl, (Kz.refl _ _).set _ _⟩
set_option maxHeartbeats 4000000 in
theorem ps_fits {W : World} {b : Nat} {im : Value} (lf n : Int) (h : W.heap[b]? = some (.cells #[im, .int .i64 lf, .bool false] 99 (0, 0))) (h0 : 0 ≤ n) (h1 : n ≤ lf) (hr : lf ≤ 1000000) :
    Calls Try.prog 78 #[.pointer (some ⟨b, 0, none⟩), .int .i64 n] W fun e w' => e = .returned (.bool true) ∧ w'.heap[b]? = some (.cells #[im, .int .i64 (lf - n), .bool false] 99 (0, 0)) ∧ Kz b W w' := by
  have c1 : W.cell? ⟨b, 1, none⟩ = some (.int .i64 lf) := cell_of h rfl
  have c2 : W.cell? ⟨b, 2, none⟩ = some (.bool false) := cell_of h rfl
  have f1 : W.frozen? ⟨b, 1, none⟩ = false := frozen_of h
  have f2 : W.frozen? ⟨b, 2, none⟩ = false := frozen_of h
  have HH : Hid (W.heap[b]? = some (.cells #[im, .int .i64 lf, .bool false] 99 (0, 0))) := h
  clear h
  have g0 : ¬ n < 0 := by omega
  have g1 : ¬ lf < n := by omega
  have hs : wrap64 (lf - n) = lf - n := by unfold wrap64; omega
  clear h0 h1 hr
  go_enter Try.func78, Try.ntmps78
  go_wp2_with fail
  go_ret
  exact ⟨rfl, by rw [set_known _ (set_known _ (show W.heap[b]? = _ from HH))]; rfl, ((Kz.refl _ _).set _ _).set _ _⟩
set_option maxHeartbeats 4000000 in
theorem ps_long {W : World} {b : Nat} {im : Value} (lf n : Int) (h : W.heap[b]? = some (.cells #[im, .int .i64 lf, .bool false] 99 (0, 0))) (h0 : 0 ≤ n) (h1 : lf < n) :
    Calls Try.prog 78 #[.pointer (some ⟨b, 0, none⟩), .int .i64 n] W fun e w' => e = .returned (.bool false) ∧ w'.heap[b]? = some (.cells #[im, .int .i64 lf, .bool true] 99 (0, 0)) ∧ Kz b W w' := by
  have c1 : W.cell? ⟨b, 1, none⟩ = some (.int .i64 lf) := cell_of h rfl
  have c2 : W.cell? ⟨b, 2, none⟩ = some (.bool false) := cell_of h rfl
  have f1 : W.frozen? ⟨b, 1, none⟩ = false := frozen_of h
  have f2 : W.frozen? ⟨b, 2, none⟩ = false := frozen_of h
  have HH : Hid (W.heap[b]? = some (.cells #[im, .int .i64 lf, .bool false] 99 (0, 0))) := h
  clear h
  have g0 : ¬ n < 0 := by omega
  clear h0
  go_enter Try.func78, Try.ntmps78
  go_wp2_with fail
  go_ret
  exact ⟨rfl, by rw [set_known _ (show W.heap[b]? = _ from HH)]; rfl, (Kz.refl _ _).set _ _⟩
theorem ad_b' (A : Addr) (n : Nat) : (A.add n).block = A.block := by unfold Addr.add; split <;> rfl
/-- bytes -/
def Bok (l : List Int) : Prop := ∀ x ∈ l, 0 ≤ x ∧ x ≤ 255
theorem Bok.app {a b : List Int} (h : Bok a) (k : Bok b) : Bok (a ++ b) := fun x hx => by
  rcases List.mem_append.1 hx with q | q
  · exact h x q
  · exact k x q
/-- all that was there is kept, but for the writer's block and rows of bytes from B on -/
structure Kw (B wb : Nat) (w w' : World) : Prop where
  os : w'.os = w.os
  output : w'.output = w.output
  size : w.heap.size ≤ w'.heap.size
  lo : ∀ k, k < B → k < w.heap.size → k ≠ wb → w'.heap[k]? = w.heap[k]?
  nt : ∀ (k : Nat) (c : Array Value) (t : TypeId), w.heap[k]? = some (.cells c t (0, 0)) → t ≠ 5 → k ≠ wb → w'.heap[k]? = w.heap[k]?
theorem Kw.refl (B wb : Nat) (w : World) : Kw B wb w w := ⟨rfl, rfl, Nat.le_refl _, fun _ _ _ _ => rfl, fun _ _ _ _ _ _ => rfl⟩
theorem Kw.trans {B wb : Nat} {a b c : World} (h : Kw B wb a b) (k : Kw B wb b c) : Kw B wb a c :=
  ⟨k.os.trans h.os, k.output.trans h.output, Nat.le_trans h.size k.size, fun i h1 h2 h3 => (k.lo i h1 (Nat.lt_of_lt_of_le h2 h.size) h3).trans (h.lo i h1 h2 h3), fun i q t h1 h2 h3 => (k.nt i q t ((h.nt i q t h1 h2 h3).trans h1) h2 h3).trans (h.nt i q t h1 h2 h3)⟩
theorem Kw.of_kb {B wb : Nat} {w w' : World} (k : Kb 0 w w') : Kw B wb w w' := ⟨k.os, k.output, k.size, fun i _ h _ => k.block i (Nat.zero_le _) h, fun i _ _ h _ _ => k.block i (Nat.zero_le _) (Array.getElem?_eq_some_iff.1 h).1⟩
theorem Kw.of_kz {B wb : Nat} {w w' : World} (k : Kz wb w w') : Kw B wb w w' := ⟨k.os, k.output, by rw [k.size]; exact Nat.le_refl _, fun i _ _ h => k.block i h, fun i _ _ _ _ h => k.block i h⟩
theorem Kw.grown {B wb n : Nat} {w w' : World} {v : Value} {l : List Value} (h : w.ownsRow B 5 1 v n l) (g : w.grownBy w' v.ownBlock) : Kw B wb w w' :=
  ⟨g.os, g.output, g.size, fun k h1 h2 _ => g.block k h2 (fun e => by have := (h.lt k e.symm).1; omega), fun k c t h1 h2 _ => g.block k (Array.getElem?_eq_some_iff.1 h1).1 (fun e => own_ty h h1 (fun q => h2 q.symm) e.symm rfl)⟩
theorem Kw.cells {B wb : Nat} {w w' : World} (k : Kw B wb w w') {g : Nat} {c : Array Value} {t : TypeId} (h : w.heap[g]? = some (.cells c t (0, 0))) (ht : t ≠ 5) (hg : g ≠ wb) : w'.heap[g]? = some (.cells c t (0, 0)) := (k.nt g c t h ht hg).trans h
theorem Kw.kb {B wb : Nat} {w0 w w' : World} (k : Kw B wb w w') (h : Kb 0 w0 w) (h1 : w0.heap.size ≤ wb) (h2 : w0.heap.size ≤ B) : Kb 0 w0 w' :=
  ⟨k.os.trans h.os, k.output.trans h.output, Nat.le_trans h.size k.size, fun g _ hg => (k.lo g (by omega) (Nat.lt_of_lt_of_le hg h.size) (by omega)).trans (h.block g (Nat.zero_le _) hg)⟩
/-- the program's writer, in block wb, has written l (or is lost, once that is too long) -/
def WS (B wb : Nat) (l : List Int) (W : World) : Prop := wb < B ∧ B ≤ W.heap.size ∧ Bok l ∧ ∃ im lf lo l1, W.heap[wb]? = some (.cells #[im, .int .i64 lf, .bool lo] 99 (0, 0)) ∧ W.ownsRow B 5 1 im l1.length (bvs l1) ∧ l1.length ≤ 8192 ∧ Bok l1 ∧ ((lo = false ∧ l1 = l ∧ lf = 8192 - (l.length : Int)) ∨ (lo = true ∧ 8192 < l.length))
def WP (B wb : Nat) (W : World) (l : List Int) (e : Ending) (w' : World) : Prop := e = .returned (.tuple #[]) ∧ WS B wb l w' ∧ Kw B wb W w'
theorem WS.call {B wb : Nat} {W W' : World} {l : List Int} (h : WS B wb l W) (k : Kb 0 W W') : WS B wb l W' := by
  obtain ⟨h0, hB, hb, im, lf, lo, l1, h2, h3, h4⟩ := h
  exact ⟨h0, Nat.le_trans hB k.size, hb, im, lf, lo, l1, (k.block _ (Nat.zero_le _) (by omega)).trans h2, own_keep h3 (fun g e => k.block g (Nat.zero_le _) (h3.lt g e).2), h4⟩
theorem bvs_app (a b : List Int) : bvs (a ++ b) = bvs a ++ bvs b := by unfold bvs; rw [List.map_append]
theorem bvs_len (a : List Int) : (bvs a).length = a.length := by unfold bvs; rw [List.length_map]
set_option maxHeartbeats 8000000 in
theorem im_put {B wb : Nat} {W : World} {l : List Int} {ad : Addr} {c : Nat} (xs : List Int) (hw : WS B wb l W) (had : ad.block ≠ wb) (hx : ∀ j u, (bvs xs)[j]? = some u → W.cell? (ad.add j) = some u) (hl : xs.length ≤ 1048576) (hbx : Bok xs) :
    Calls Try.prog 60 #[.pointer (some ⟨wb, 0, none⟩), .slice (some ad) xs.length c] W (WP B wb W (l ++ xs)) := by
  obtain ⟨h0, hB, hb, im, lf, lo, l1, h2, d, a, hb1, h3⟩ := hw
  obtain ⟨m, hm⟩ : ∃ m, m = xs.length := ⟨_, rfl⟩
  rw [← hm]
  have hba := hb.app hbx
  rcases h3 with ⟨rfl, rfl, rfl⟩ | ⟨rfl, hlong⟩
  · by_cases hf : (m : Int) ≤ 8192 - (l1.length : Int)
    · have HC := ps_fits (8192 - (l1.length : Int)) (m : Int) h2 (by omega) hf (by omega)
      obtain ⟨i0, hi0, hz0, hz1, hz2⟩ := info_parts infoB
      have HI0 : Hid (Try.prog.info? 5 = some i0) := hi0
      have HZ : Hid (∀ w1 : World, w1.heap[wb]? = some (.cells #[im, .int .i64 (8192 - (l1.length : Int) - (m : Int)), .bool false] 99 (0, 0)) → Kz wb W w1 → w1.cell? ⟨wb, 0, none⟩ = some im ∧ w1.ownsRow B 5 1 im l1.length (bvs l1) ∧ (∀ j u, (bvs xs)[j]? = some u → w1.cell? (ad.add j) = some u) ∧ B ≤ w1.heap.size ∧ ∀ v2 w2, w2.ownsRow B 5 1 v2 (l1.length + m) (bvs l1 ++ bvs xs) → w1.grownBy w2 im.ownBlock → (w2.cell? ⟨wb, 0, none⟩ = some im ∧ w2.frozen? ⟨wb, 0, none⟩ = false) ∧ WS B wb (l1 ++ xs) (w2.setCell ⟨wb, 0, none⟩ v2) ∧ Kw B wb W (w2.setCell ⟨wb, 0, none⟩ v2)) := by
        show ∀ w1 : World, _
        intro w1 b1 k1
        have d1 : w1.ownsRow B 5 1 im l1.length (bvs l1) := own_keep d (fun g e => k1.block g (by have := (d.lt g e).1; omega))
        have hlt := (Array.getElem?_eq_some_iff.1 b1).1
        have hz1' := k1.size
        refine ⟨cell_of b1 rfl, d1, fun j u hu => ?_, by omega, fun v2 w2 ho hg => ?_⟩
        · rw [World.cell?_of_block (w := W) (by rw [ad_b']; exact k1.block _ had)]
          exact hx j u hu
        · have hne : some wb ≠ im.ownBlock := fun e => by have := (d1.lt _ e.symm).1; omega
          have b2 := (hg.block _ hlt hne).trans b1
          have b3 := set_known (j := 0) v2 b2
          have hs2 := hg.size
          have hsz : (w2.setCell ⟨wb, 0, none⟩ v2).heap.size = w2.heap.size := World.size_setCell _ _ _
          refine ⟨⟨cell_of b2 rfl, frozen_of b2⟩, ⟨h0, by omega, hba, v2, _, _, l1 ++ xs, b3, ?_, by rw [List.length_append]; omega, hba, .inl ⟨rfl, rfl, by rw [List.length_append]; omega⟩⟩, ?_⟩
          · rw [List.length_append, bvs_app, ← hm]
            exact own_keep ho (fun g e => Below.heap_setCell _ _ _ _ (show g ≠ wb by have := (ho.lt g e).1; omega))
          · exact ((Kw.of_kz k1).trans (Kw.grown d1 hg)).trans (Kw.of_kz ((Kz.refl wb w2).set 0 v2))
      have hlm : l1.length + m ≤ 8192 := by omega
      have hbl : (bvs xs).length = m * 1 := by rw [bvs_len, hm]; omega
      have hone : ∀ u ∈ bvs xs, u.oneCell' = true := by intro u hu; obtain ⟨x, _, rfl⟩ := List.mem_map.1 hu; rfl
      clear hi0 h0 h2 d hx had hl hm hf a hb hba hb1 hbx hB
      go_enter Try.func60, Try.ntmps60
      go_wp2_with fail
      refine HC.mono ?_
      rintro e w1 ⟨rfl, b1, k1⟩
      obtain ⟨c0, d1, hx1, hs1, hA⟩ := (show ∀ w1 : World, _ from HZ) w1 b1 k1
      have HA : Hid (∀ v2 w2, w2.ownsRow B 5 1 v2 (l1.length + m) (bvs l1 ++ bvs xs) → w1.grownBy w2 im.ownBlock → _) := hA
      clear HC HZ b1 k1 hA
      go_wp2_with (at_builtin; refine wpList_append_own _ rfl (.tmp 15) (.tmp 16) 22 rfl B 5 i0 (.int .u8 0) 1 1 Try.underlying22 HI0 hz0 hz1 hz2 rfl (by decide) _ _ _ rfl d1 ad m c (bvs xs) rfl hbl hx1 hone (by unfold maxLen; omega) (by omega) hs1 ?_; intro v2 w2 hown1 hgrow1 _; obtain ⟨⟨e2, f2⟩, y1, y2⟩ := (show ∀ v2 w2, _ → _ → _ from HA) v2 w2 hown1 hgrow1; obtain ⟨p2, c2, hv2⟩ := own_shape hown1; subst hv2)
      have HN : Hid _ := (⟨y1, y2⟩ : _ ∧ _)
      clear y1 y2 HA hown1 hgrow1 d1 hx1 hs1
      go_wp2_with fail
      exact ⟨rfl, .tuple #[], by simp [results, Try.results60], rfl, (show _ ∧ _ from HN).1, (show _ ∧ _ from HN).2⟩
    · have HC := ps_long (8192 - (l1.length : Int)) (m : Int) h2 (by omega) (by omega)
      have HZ : Hid (∀ w1 : World, w1.heap[wb]? = some (.cells #[im, .int .i64 (8192 - (l1.length : Int)), .bool true] 99 (0, 0)) → Kz wb W w1 → WS B wb (l1 ++ xs) w1 ∧ Kw B wb W w1) := (fun w1 b1 k1 => ⟨⟨h0, by rw [k1.size]; exact hB, hba, im, _, _, l1, b1, own_keep d (fun g e => k1.block g (by have := (d.lt g e).1; omega)), a, hb1, .inr ⟨rfl, by rw [List.length_append]; omega⟩⟩, Kw.of_kz k1⟩ : ∀ w1 : World, _)
      clear h0 h2 d hx had hl hm hf a hb hba hb1 hbx hB
      go_enter Try.func60, Try.ntmps60
      go_wp2_with fail
      refine HC.mono ?_
      rintro e w1 ⟨rfl, b1, k1⟩
      have HN : Hid _ := (show ∀ w1 : World, _ from HZ) w1 b1 k1
      clear HC HZ b1 k1
      go_wp2_with fail
      exact ⟨rfl, .tuple #[], by simp [results, Try.results60], rfl, (show _ ∧ _ from HN).1, (show _ ∧ _ from HN).2⟩
  · have HC := ps_lost lf (m : Int) h2
    have HZ : Hid (∀ w1 : World, w1.heap[wb]? = some (.cells #[im, .int .i64 lf, .bool true] 99 (0, 0)) → Kz wb W w1 → WS B wb (l ++ xs) w1 ∧ Kw B wb W w1) := (fun w1 b1 k1 => ⟨⟨h0, by rw [k1.size]; exact hB, hba, im, _, _, l1, b1, own_keep d (fun g e => k1.block g (by have := (d.lt g e).1; omega)), a, hb1, .inr ⟨rfl, by rw [List.length_append]; omega⟩⟩, Kw.of_kz k1⟩ : ∀ w1 : World, _)
    clear h0 h2 hx had hl hm a d hb hba hb1 hbx hB
    go_enter Try.func60, Try.ntmps60
    go_wp2_with fail
    refine HC.mono ?_
    rintro e w1 ⟨rfl, b1, k1⟩
    have HN : Hid _ := (show ∀ w1 : World, _ from HZ) w1 b1 k1
    clear HC HZ b1 k1
    go_wp2_with fail
    exact ⟨rfl, .tuple #[], by simp [results, Try.results60], rfl, (show _ ∧ _ from HN).1, (show _ ∧ _ from HN).2⟩
end Go.Proofs.Ytamcnmnaadpfoaa.Fo

namespace Go.Proofs.Ytamcnmnaadpfoaa.Fo
open Go.ChangeShapes Go.WideShapes Go.ChangeAt Go.RowKit
set_option linter.unusedVariables false
set_option maxRecDepth 100000
theorem wrap_u64 (n : Int) : IntKind.u64.wrap n = n % 18446744073709551616 := by simp [IntKind.wrap, IntKind.signed, IntKind.bits]
theorem im_put1 {B wb : Nat} {W : World} {l : List Int} (hw : WS B wb l W) (b : Int) (h0 : 0 ≤ b) (h1 : b ≤ 255) :
    Calls Try.prog 60 #[.pointer (some ⟨wb, 0, none⟩), .slice (some ⟨W.heap.size, 0, none⟩) 1 1] (W.alloc (.cells #[.int .u8 b] 5)) (WP B wb W (l ++ [b])) := by
  have hlt : wb < W.heap.size := Nat.lt_of_lt_of_le hw.1 hw.2.1
  refine (im_put (c := 1) (ad := ⟨W.heap.size, 0, none⟩) [b] (hw.call (kb_alloc 0 W (.cells #[.int .u8 b] 5))) (by show W.heap.size ≠ _; omega) (fun j u hu => ?_) (by simp) (fun x hx => by rw [List.mem_singleton] at hx; subst hx; exact ⟨h0, h1⟩)).mono ?_
  · exact qr_cells W #[.int .u8 b] 5 _ rfl j u hu
  · rintro e w' ⟨h1, h2, h3⟩
    exact ⟨h1, h2, (Kw.of_kb (kb_alloc 0 W _)).trans h3⟩
set_option maxHeartbeats 4000000 in
theorem im_groups {B wb : Nat} {W : World} {l : List Int} (U : Nat) (hU : U < 18446744073709551616) (hw : WS B wb l W) :
    Calls Try.prog 92 #[.pointer (some ⟨wb, 0, none⟩), .int .u64 (U : Int)] W (WP B wb W (l ++ numb U)) := by
  have HW : Hid (WS B wb l W) := hw
  clear hw
  go_enter Try.func92, Try.ntmps92
  go_wp2_with fail
  go_loopw [1] (fun s1 wr => ∃ (u : Nat) (acc : List Int), s1 = .int .u64 (u : Int) ∧ (u : Int) < 18446744073709551616 ∧ Hid (WS B wb (l ++ acc) wr ∧ Kw B wb W wr ∧ numb U = acc ++ numb u)) (fun s1 _ => (intOf s1).toNat)
  case atStart => exact ⟨U, [], rfl, by omega, (⟨by rw [List.append_nil]; exact HW, Kw.refl _ _ _, rfl⟩ : _ ∧ _)⟩
  case round =>
    clear HW
    obtain ⟨u, acc, rfl, hu, HX⟩ := hrel
    obtain ⟨hw, hok, hvb⟩ := (show _ ∧ _ ∧ _ from HX)
    by_cases hc : u < 128
    · have hg : ¬ (128 : Int) ≤ (u : Int) := by omega
      have hcv : IntKind.u8.wrap (u : Int) = (u : Int) := by rw [wrap_u8]; omega
      have HC := im_put1 hw (u : Int) (by omega) (by omega)
      have HO : Hid (Kw B wb W wr ∧ l ++ numb U = (l ++ acc) ++ [(u : Int)]) := (⟨hok, by rw [hvb, numb_lt (by omega), List.append_assoc]⟩ : _ ∧ _)
      clear hw hok hvb HX hU hc
      go_wp2_with fail
      refine HC.mono ?_
      rintro e w2 ⟨rfl, y1, y2⟩
      obtain ⟨o1, o2⟩ := (show _ ∧ _ from HO)
      have HN : Hid (WS B wb (l ++ numb U) w2 ∧ Kw B wb W w2) := (⟨by rw [o2]; exact y1, o1.trans y2⟩ : _ ∧ _)
      clear HC y1 y2 HO o1 o2
      go_wp2_with fail
      exact ⟨rfl, .tuple #[], by simp [results, Try.results92], rfl, (show _ ∧ _ from HN).1, (show _ ∧ _ from HN).2⟩
    · have hg : (128 : Int) ≤ (u : Int) := by omega
      obtain ⟨r7, hr7⟩ : ∃ r7 : Int, r7 = (u : Int) % 128 := ⟨_, rfl⟩
      have hmod : Int.tmod (u : Int) 128 = r7 := by rw [hr7]; exact Int.tmod_eq_emod_of_nonneg (by omega)
      have hwr : IntKind.u64.wrap (128 + r7) = 128 + r7 := by rw [wrap_u64]; omega
      have hcv : IntKind.u8.wrap (128 + r7) = 128 + r7 := by rw [wrap_u8]; omega
      obtain ⟨u2, hu2⟩ : ∃ u2, u2 = u / 128 := ⟨_, rfl⟩
      have hdv : Int.tdiv (u : Int) 128 = (u2 : Int) := by rw [Int.tdiv_eq_ediv_of_nonneg (by omega)]; omega
      have hdv2 : (u : Int) / 128 = (u2 : Int) := by omega
      have hmod2 : (u : Int) % 128 = r7 := hr7.symm
      have HC := im_put1 hw (128 + r7) (by omega) (by omega)
      have HO : Hid (Kw B wb W wr ∧ numb U = (acc ++ [128 + r7]) ++ numb u2 ∧ u2 < u ∧ (u2 : Int) < 18446744073709551616) := (⟨hok, by rw [hvb, numb_ge (by omega), List.append_assoc, hu2, hr7]; congr 2; omega, by omega, by omega⟩ : _ ∧ _)
      clear hw hok hvb HX hU hc hu2 hr7
      go_wp2_with fail
      refine HC.mono ?_
      rintro e w2 ⟨rfl, y1, y2⟩
      obtain ⟨o1, o2, o3, o4⟩ := (show _ ∧ _ ∧ _ ∧ _ from HO)
      have HN : Hid (WS B wb (l ++ (acc ++ [128 + r7])) w2 ∧ Kw B wb W w2 ∧ numb U = (acc ++ [128 + r7]) ++ numb u2) := (⟨by rw [← List.append_assoc]; exact y1, o1.trans y2, o2⟩ : _ ∧ _)
      have HL : Hid (u2 < u ∧ (u2 : Int) < 18446744073709551616) := (⟨o3, o4⟩ : _ ∧ _)
      clear HC y1 y2 HO o1 o2 o3 o4
      go_wp2_with fail
      go_roundw
      case rel => exact ⟨u2, _, rfl, HL.2, HN⟩
      case measure => exact (show u2 < u ∧ _ from HL).1
def Rn (n : Int) : Prop := -9223372036854775808 ≤ n ∧ n ≤ 9223372036854775807
def nb (n : Int) : List Int := numb (sgn n)
/-- several numbers -/
def nbs : List Int → List Int
  | [] => []
  | n :: r => nb n ++ nbs r
theorem nbs_app (a b : List Int) : nbs (a ++ b) = nbs a ++ nbs b := by
  induction a with
  | nil => rfl
  | cons x a ih => show nb x ++ nbs (a ++ b) = (nb x ++ nbs a) ++ nbs b; rw [ih, List.append_assoc]
set_option maxHeartbeats 8000000 in
theorem im_numbers {B wb : Nat} {W : World} {l : List Int} {g : Nat} {cs : Array Value} (xs : List Int) (hr : ∀ x ∈ xs, Rn x) (hw : WS B wb l W) (hg : W.heap[g]? = some (.cells cs 3 (0, 0))) (hcs : cs.toList = xs.map fun x => Value.int .i64 x) (hgb : g ≠ wb) (hl : xs.length ≤ 100) :
    Calls Try.prog 109 #[.pointer (some ⟨wb, 0, none⟩), .slice (some ⟨g, 0, none⟩) xs.length xs.length] W (WP B wb W (l ++ nbs xs)) := by
  have HW : Hid (WS B wb l W ∧ (∀ x ∈ xs, Rn x)) := (⟨hw, hr⟩ : _ ∧ _)
  have HG : Hid (∀ W', Kw B wb W W' → ∀ (i : Nat) (x : Int), xs[i]? = some x → W'.cell? ⟨g, i, none⟩ = some (.int .i64 x)) := (fun W' k i x hx => by
    have := k.cells hg (by decide) hgb
    refine cell_of this ?_
    have e : cs[i]? = cs.toList[i]? := by simp
    rw [e, hcs, List.getElem?_map, hx]
    rfl : ∀ W', _)
  obtain ⟨n, hn⟩ : ∃ n, n = xs.length := ⟨_, rfl⟩
  rw [← hn]
  have HNN : Hid (n = xs.length) := hn
  have hnI : (n : Int) ≤ 100 := by omega
  clear hw hg hcs hgb hl hr hn
  go_enter Try.func109, Try.ntmps109
  go_wp2_with fail
  go_loopw [9] (fun s9 wr => ∃ (i : Nat), i ≤ n ∧ s9 = .int .i64 (i : Int) ∧ Hid (WS B wb (l ++ nbs (xs.take i)) wr ∧ Kw B wb W wr)) (fun s9 _ => n - (intOf s9).toNat)
  case atStart => exact ⟨0, by omega, rfl, (⟨by rw [List.take_zero, show nbs [] = [] from rfl, List.append_nil]; exact (show _ ∧ _ from HW).1, Kw.refl _ _ _⟩ : _ ∧ _)⟩
  case round =>
    obtain ⟨i, hi, rfl, HX⟩ := hrel
    obtain ⟨hw, hok⟩ := (show _ ∧ _ from HX)
    have hnn := (show n = xs.length from HNN)
    by_cases hin : i < n
    · have hI : (i : Int) < (n : Int) := by omega
      obtain ⟨x, hx⟩ : ∃ x, xs[i]? = some x := ⟨_, List.getElem?_eq_getElem (by omega)⟩
      have hc := (show ∀ W', Kw B wb W W' → _ from HG) wr hok i x hx
      have hrx := (show _ ∧ _ from HW).2 x (List.mem_of_getElem? hx)
      have htk : nbs (xs.take (i + 1)) = nbs (xs.take i) ++ nb x := by
        rw [List.take_add_one, hx, nbs_app]
        show _ ++ (nb x ++ []) = _
        rw [List.append_nil]
      have HC := im_groups (sgn x) (sgn_lt hrx.1 hrx.2) hw
      have HO : Hid (Kw B wb W wr ∧ nbs (xs.take (i + 1)) = nbs (xs.take i) ++ nb x) := (⟨hok, htk⟩ : _ ∧ _)
      by_cases hneg : x < 0
      · have e1 : IntKind.u64.wrap (2 * IntKind.u64.wrap x) = 18446744073709551616 + 2 * x := by rw [wrap_u64, wrap_u64]; have := hrx.1; omega
        have e2 : IntKind.u64.wrap (-(18446744073709551616 + 2 * x)) = (-2 * x) % 18446744073709551616 := by rw [wrap_u64]; have := hrx.1; omega
        have e3 : IntKind.u64.wrap ((-2 * x) % 18446744073709551616 - 1) = (sgn x : Int) := by
          rw [wrap_u64]
          unfold sgn
          rw [if_pos hneg]
          have := hrx.1
          omega
        obtain ⟨Z, hZ⟩ : ∃ Z, Z = (sgn x : Int) := ⟨_, rfl⟩
        rw [← hZ] at HC e3
        clear hw hok hrx htk HX hnn hx hZ
        obtain ⟨A1, hA1⟩ : ∃ A1 : Int, A1 = 18446744073709551616 + 2 * x := ⟨_, rfl⟩
        rw [← hA1] at e1 e2
        obtain ⟨A2, hA2⟩ : ∃ A2 : Int, A2 = (-2 * x) % 18446744073709551616 := ⟨_, rfl⟩
        rw [← hA2] at e2 e3
        clear hA1 hA2
        go_wp2_with fail
        refine HC.mono ?_
        rintro e w2 ⟨rfl, y1, y2⟩
        obtain ⟨o1, o2⟩ := (show _ ∧ _ from HO)
        have HN : Hid (WS B wb (l ++ nbs (xs.take (i + 1))) w2 ∧ Kw B wb W w2) := (⟨by rw [o2, ← List.append_assoc]; exact y1, o1.trans y2⟩ : _ ∧ _)
        clear HC y1 y2 HO o1 o2 e1 e2 e3
        go_wp2_with fail
        go_roundw
        case rel => exact ⟨i + 1, by omega, by go_num, HN⟩
        case measure => simp [intOf]; omega
      · have e4 : 2 * x = (sgn x : Int) := by unfold sgn; rw [if_neg (by omega)]; omega
        obtain ⟨Z, hZ⟩ : ∃ Z, Z = (sgn x : Int) := ⟨_, rfl⟩
        rw [← hZ] at HC e4
        obtain ⟨r1, r2⟩ := hrx
        clear hw hok htk HX hnn hx hZ
        go_wp2_with fail
        refine HC.mono ?_
        rintro e w2 ⟨rfl, y1, y2⟩
        obtain ⟨o1, o2⟩ := (show _ ∧ _ from HO)
        have HN : Hid (WS B wb (l ++ nbs (xs.take (i + 1))) w2 ∧ Kw B wb W w2) := (⟨by rw [o2, ← List.append_assoc]; exact y1, o1.trans y2⟩ : _ ∧ _)
        clear HC y1 y2 HO o1 o2 e4
        go_wp2_with fail
        go_roundw
        case rel => exact ⟨i + 1, by omega, by go_num, HN⟩
        case measure => simp [intOf]; omega
    · obtain rfl : i = n := by omega
      have hI : ¬ (i : Int) < (i : Int) := by omega
      have HN : Hid (WS B wb (l ++ nbs xs) wr ∧ Kw B wb W wr) := by
        rw [hnn, List.take_length] at hw
        exact (⟨hw, hok⟩ : _ ∧ _)
      clear hw hok HX hnn HW HG
      go_wp2_with fail
      exact ⟨rfl, .tuple #[], by simp [results, Try.results109], rfl, (show _ ∧ _ from HN).1, (show _ ∧ _ from HN).2⟩
end Go.Proofs.Ytamcnmnaadpfoaa.Fo

namespace Go.Proofs.Ytamcnmnaadpfoaa.Fo
open Go.ChangeShapes Go.WideShapes Go.ChangeAt Go.RowKit
set_option linter.unusedVariables false
set_option maxRecDepth 100000
theorem im_num1 {B wb : Nat} {W : World} {l : List Int} (hw : WS B wb l W) (x : Int) (hr : Rn x) :
    Calls Try.prog 109 #[.pointer (some ⟨wb, 0, none⟩), .slice (some ⟨W.heap.size, 0, none⟩) 1 1] (W.alloc (.cells #[.int .i64 x] 3)) (WP B wb W (l ++ numb (sgn x))) := by
  have hlt : wb < W.heap.size := Nat.lt_of_lt_of_le hw.1 hw.2.1
  refine (im_numbers [x] (fun y hy => by rw [List.mem_singleton] at hy; subst hy; exact hr) (hw.call (kb_alloc 0 W (.cells #[.int .i64 x] 3))) (alloc_new _ _ _) rfl (by omega) (by simp)).mono ?_
  rintro e w' ⟨h1, h2, h3⟩
  have e1 : l ++ nbs [x] = l ++ numb (sgn x) := by
    show l ++ (nb x ++ []) = _
    rw [List.append_nil]
    rfl
  rw [e1] at h2
  exact ⟨h1, h2, (Kw.of_kb (kb_alloc 0 W _)).trans h3⟩
theorem eig_bok (n : Nat) : ∀ k, Bok (eig n k)
  | 0 => fun x hx => by cases hx
  | k + 1 => (eig_bok n k).app (fun x hx => by rw [List.mem_singleton] at hx; subst hx; omega)
theorem numb_bok : ∀ (n : Nat), Bok (numb n) := by
  intro n
  induction n using Nat.strongRecOn with
  | ind n ih =>
    by_cases h : n ≤ 127
    · rw [numb_lt h]; intro x hx; rw [List.mem_singleton] at hx; subst hx; omega
    · rw [numb_ge h]
      intro x hx
      rcases List.mem_cons.1 hx with rfl | q
      · omega
      · exact ih (n / 128) (by omega) x q
/-- a word with a sign, shifted -/
theorem shr_step (n : Int) (k : Nat) : (n / 256 ^ k) / 256 = n / 256 ^ (k + 1) := by
  rw [Int.pow_succ, Int.ediv_ediv_of_nonneg (by have : (0:Int) < 256 ^ k := Int.pow_pos (by decide); omega)]
theorem eig_byte (n : Int) (k : Nat) (hk : k < 8) : (n / 256 ^ k) % 256 = (((n % 18446744073709551616).toNat / 256 ^ k % 256 : Nat) : Int) := by
  have e0 : (0 : Int) ≤ n % 18446744073709551616 := by omega
  rw [Int.natCast_emod, Int.natCast_ediv, Int.toNat_of_nonneg e0]
  have hd : n = 18446744073709551616 * (n / 18446744073709551616) + n % 18446744073709551616 := (Int.mul_ediv_add_emod _ _).symm
  generalize n / 18446744073709551616 = q at hd
  generalize n % 18446744073709551616 = r at hd
  subst hd
  rcases (by omega : k = 0 ∨ k = 1 ∨ k = 2 ∨ k = 3 ∨ k = 4 ∨ k = 5 ∨ k = 6 ∨ k = 7) with rfl | rfl | rfl | rfl | rfl | rfl | rfl | rfl <;> simp <;> omega
set_option maxHeartbeats 8000000 in
theorem im_eight {B wb : Nat} {W : World} {l : List Int} (n : Int) (h0 : -9223372036854775808 ≤ n) (h1 : n ≤ 9223372036854775807) (hw : WS B wb l W) :
    Calls Try.prog 63 #[.pointer (some ⟨wb, 0, none⟩), .int .i64 n] W (WP B wb W (l ++ eig (n % 18446744073709551616).toNat 8)) := by
  obtain ⟨N, hN⟩ : ∃ N, N = (n % 18446744073709551616).toNat := ⟨_, rfl⟩
  have HB : Hid (∀ k, k < 8 → (n / 256 ^ k) % 256 = ((N / 256 ^ k % 256 : Nat) : Int)) := (by rw [hN]; exact fun k hk => eig_byte n k hk : ∀ k, _)
  rw [← hN]
  have HW : Hid (WS B wb l W) := hw
  clear hw hN h0 h1
  go_enter Try.func63, Try.ntmps63
  go_wp2_with fail
  go_loopw [1, 4] (fun s1 s4 wr => ∃ k : Nat, s4 = .int .i64 (k : Int) ∧ k ≤ 8 ∧ s1 = .int .i64 (n / 256 ^ k) ∧ Hid (WS B wb (l ++ eig N k) wr ∧ Kw B wb W wr)) (fun _ s4 _ => 8 - (intOf s4).toNat)
  case atStart => exact ⟨0, rfl, by omega, by simp, (⟨by rw [show eig N 0 = [] from rfl, List.append_nil]; exact HW, Kw.refl _ _ _⟩ : _ ∧ _)⟩
  case round =>
    clear HW
    obtain ⟨k, rfl, hk, rfl, HX⟩ := hrel
    obtain ⟨hw, hok⟩ := (show WS B wb (l ++ eig N k) wr ∧ Kw B wb W wr from HX)
    rcases Nat.lt_or_ge k 8 with hk8 | hk8
    case inr =>
      obtain rfl : k = 8 := by omega
      clear hw hok HB
      go_wp2_with fail
      exact ⟨rfl, .tuple #[], by simp [results, Try.results63], rfl, (show _ ∧ _ from HX).1, (show _ ∧ _ from HX).2⟩
    have hkI : (k : Int) < 8 := by omega
    obtain ⟨X, hX⟩ : ∃ X, X = n / 256 ^ k := ⟨_, rfl⟩
    have hbt := (show ∀ k, k < 8 → _ from HB) k hk8
    rw [← hX] at hbt
    rw [← hX]
    obtain ⟨b, hb⟩ : ∃ b : Int, b = ((N / 256 ^ k % 256 : Nat) : Int) := ⟨_, rfl⟩
    have hcv : IntKind.u8.wrap X = b := by rw [wrap_u8, hbt, hb]
    have HC := im_put1 hw b (by omega) (by omega)
    have HO : Hid (Kw B wb W wr ∧ l ++ eig N (k + 1) = (l ++ eig N k) ++ [b] ∧ X / 256 = n / 256 ^ (k + 1)) := (⟨hok, by rw [hb]; show l ++ (eig N k ++ [_]) = _; rw [List.append_assoc], by rw [hX]; exact shr_step n k⟩ : _ ∧ _)
    have hsh : X >>> (8 : Nat) = X / 256 := by rw [Int.shiftRight_eq_div_pow]; rfl
    clear hw hok HX hbt hb HB hX
    go_wp2_with fail
    refine HC.mono ?_
    rintro e w2 ⟨rfl, y1, y2⟩
    obtain ⟨o1, o2, o3⟩ := (show _ ∧ _ ∧ _ from HO)
    have HN : Hid (WS B wb (l ++ eig N (k + 1)) w2 ∧ Kw B wb W w2) := (⟨by rw [o2]; exact y1, o1.trans y2⟩ : _ ∧ _)
    have HN3 : Hid (X / 256 = n / 256 ^ (k + 1)) := o3
    clear HC y1 y2 o1 o2 o3 HO
    go_wp2_with fail
    go_roundw
    case rel => exact ⟨k + 1, by go_num, by omega, by rw [show X / 256 = _ from HN3], HN⟩
    case measure => simp [intOf]; omega
end Go.Proofs.Ytamcnmnaadpfoaa.Fo
