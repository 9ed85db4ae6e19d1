import Derived.Lib.SlBytesConst
import Derived.Deep.MidRow
import Derived.Deep.WholeRow
import Derived.Test.YtaggciimacanbaaMPac
import Derived.Test.YtaggciimacanbaaMSup
import Derived.Test.YtaggciimacanbaaMSuc
namespace Go.Proofs.Ytaggciimacanbaa.Fo
open Go.ChangeShapes Go.WideShapes Go.ChangeAt Go.RowKit
set_option linter.unusedVariables false
set_option maxRecDepth 100000
/-- the sum of bytes as a word -/
def sm64 (l : List Int) : Nat := (smz (fun i => l.getD i 0) l.length).toNat
theorem smz_rg (A : Nat → Int) : ∀ i, 0 ≤ smz A i ∧ smz A i < 18446744073709551616
  | 0 => by show (0 : Int) ≤ 14695981039346656037 ∧ (14695981039346656037 : Int) < _; omega
  | i + 1 => by
    show 0 ≤ sst (smz A i) (A i) ∧ sst (smz A i) (A i) < _
    unfold sst
    rw [wrap_u64]
    omega
theorem sm64_int (l : List Int) : (sm64 l : Int) = smz (fun i => l.getD i 0) l.length := by
  have := smz_rg (fun i => l.getD i 0) l.length
  unfold sm64
  omega
theorem sm64_lt (l : List Int) : sm64 l < 18446744073709551616 := by
  have := smz_rg (fun i => l.getD i 0) l.length
  have := sm64_int l
  omega
theorem own_rowv {W : World} {B : Nat} {v : Value} {l : List Int} (h : W.ownsRow B 5 1 v l.length (bvs l)) : RowV W v l.length (fun i => .int .u8 (l.getD i 0)) := by
  obtain ⟨p, cap, hp⟩ := own_shape h
  refine ⟨p, cap, hp, fun hn => ?_⟩
  obtain ⟨g, cap', e, hB, hc, hcell⟩ := own_cells h hn
  rw [hp] at e
  injection e with e1 _ e3
  refine ⟨⟨g, 0, none⟩, e1, by omega, fun i hi => ?_⟩
  rw [addr0, hcell i (by omega)]
  unfold bvs
  show _ = some (Value.int .u8 (l.getD i 0))
  rw [List.getElem?_map, List.getD_eq_getElem?_getD, List.getElem?_eq_getElem hi]
  rfl
theorem bok_getD {l : List Int} (h : Bok l) : ∀ i, i < l.length → 0 ≤ l.getD i 0 ∧ l.getD i 0 ≤ 255 := fun i hi => by
  rw [List.getD_eq_getElem?_getD, List.getElem?_eq_getElem hi]
  exact h _ (List.getElem_mem hi)
theorem qr_cells2 (w : World) (c : Array Value) (t : TypeId) (m : Nat × Nat) (l : List Value) (hl : c.toList = l) : ∀ j u, l[j]? = some u → (w.alloc (.cells c t m)).cell? ((⟨w.heap.size, 0, none⟩ : Addr).add j) = some u := by
  intro j u hj
  subst hl
  rw [addr0, World.cell?_alloc_mark]
  simpa using hj
theorem bok_nil : Bok [] := fun x hx => by cases hx
theorem wrap64_rg (s : Int) : -9223372036854775808 ≤ wrap64 s ∧ wrap64 s ≤ 9223372036854775807 := by unfold wrap64; omega
/-- the program's writer, in block wb, has written l (or is lost, once that is too long) -/
def WS6 (B wb : Nat) (l : List Int) (W : World) : Prop := wb < B ∧ B ≤ W.heap.size ∧ Bok l ∧ ∃ im lf lo l1, W.heap[wb]? = some (.cells #[im, .int .i64 lf, .bool lo] 136 (0, 0)) ∧ W.ownsRow B 5 1 im l1.length (bvs l1) ∧ l1.length ≤ 64 ∧ Bok l1 ∧ ((lo = false ∧ l1 = l ∧ lf = 64 - (l.length : Int)) ∨ (lo = true ∧ 64 < l.length))
def WP6 (B wb : Nat) (W : World) (l : List Int) (e : Ending) (w' : World) : Prop := e = .returned (.tuple #[]) ∧ WS6 B wb l w' ∧ Kw B wb W w'
theorem WS6.call {B wb : Nat} {W W' : World} {l : List Int} (h : WS6 B wb l W) (k : Kb 0 W W') : WS6 B wb l W' := by
  obtain ⟨h0, hB, hb, im, lf, lo, l1, h2, h3, h4⟩ := h
  exact ⟨h0, Nat.le_trans hB k.size, hb, im, lf, lo, l1, (k.block _ (Nat.zero_le _) (by omega)).trans h2, own_keep h3 (fun g e => k.block g (Nat.zero_le _) (h3.lt g e).2), h4⟩
set_option maxHeartbeats 8000000 in
theorem im_put6 {B wb : Nat} {W : World} {l : List Int} {ad : Addr} {c : Nat} (xs : List Int) (hw : WS6 B wb l W) (had : ad.block ≠ wb) (hx : ∀ j u, (bvs xs)[j]? = some u → W.cell? (ad.add j) = some u) (hl : xs.length ≤ 1048576) (hbx : Bok xs) :
    Calls Try.prog 104 #[.pointer (some ⟨wb, 0, none⟩), .slice (some ad) xs.length c] W (WP6 B wb W (l ++ xs)) := by
  obtain ⟨h0, hB, hb, im, lf, lo, l1, h2, d, a, hb1, h3⟩ := hw
  obtain ⟨m, hm⟩ : ∃ m, m = xs.length := ⟨_, rfl⟩
  rw [← hm]
  have hba := hb.app hbx
  rcases h3 with ⟨rfl, rfl, rfl⟩ | ⟨rfl, hlong⟩
  · by_cases hf : (m : Int) ≤ 64 - (l1.length : Int)
    · have HC := ps_fits (64 - (l1.length : Int)) (m : Int) h2 (by omega) hf (by omega)
      obtain ⟨i0, hi0, hz0, hz1, hz2⟩ := info_parts infoB
      have HI0 : Hid (Try.prog.info? 5 = some i0) := hi0
      have HZ : Hid (∀ w1 : World, w1.heap[wb]? = some (.cells #[im, .int .i64 (64 - (l1.length : Int) - (m : Int)), .bool false] 136 (0, 0)) → Kz wb W w1 → w1.cell? ⟨wb, 0, none⟩ = some im ∧ w1.ownsRow B 5 1 im l1.length (bvs l1) ∧ (∀ j u, (bvs xs)[j]? = some u → w1.cell? (ad.add j) = some u) ∧ B ≤ w1.heap.size ∧ ∀ v2 w2, w2.ownsRow B 5 1 v2 (l1.length + m) (bvs l1 ++ bvs xs) → w1.grownBy w2 im.ownBlock → (w2.cell? ⟨wb, 0, none⟩ = some im ∧ w2.frozen? ⟨wb, 0, none⟩ = false) ∧ WS6 B wb (l1 ++ xs) (w2.setCell ⟨wb, 0, none⟩ v2) ∧ Kw B wb W (w2.setCell ⟨wb, 0, none⟩ v2)) := by
        show ∀ w1 : World, _
        intro w1 b1 k1
        have d1 : w1.ownsRow B 5 1 im l1.length (bvs l1) := own_keep d (fun g e => k1.block g (by have := (d.lt g e).1; omega))
        have hlt := (Array.getElem?_eq_some_iff.1 b1).1
        have hz1' := k1.size
        refine ⟨cell_of b1 rfl, d1, fun j u hu => ?_, by omega, fun v2 w2 ho hg => ?_⟩
        · rw [World.cell?_of_block (w := W) (by rw [ad_b']; exact k1.block _ had)]
          exact hx j u hu
        · have hne : some wb ≠ im.ownBlock := fun e => by have := (d1.lt _ e.symm).1; omega
          have b2 := (hg.block _ hlt hne).trans b1
          have b3 := set_known (j := 0) v2 b2
          have hs2 := hg.size
          have hsz : (w2.setCell ⟨wb, 0, none⟩ v2).heap.size = w2.heap.size := World.size_setCell _ _ _
          refine ⟨⟨cell_of b2 rfl, frozen_of b2⟩, ⟨h0, by omega, hba, v2, _, _, l1 ++ xs, b3, ?_, by rw [List.length_append]; omega, hba, .inl ⟨rfl, rfl, by rw [List.length_append]; omega⟩⟩, ?_⟩
          · rw [List.length_append, bvs_app, ← hm]
            exact own_keep ho (fun g e => Below.heap_setCell _ _ _ _ (show g ≠ wb by have := (ho.lt g e).1; omega))
          · exact ((Kw.of_kz k1).trans (Kw.grown d1 hg)).trans (Kw.of_kz ((Kz.refl wb w2).set 0 v2))
      have hlm : l1.length + m ≤ 64 := by omega
      have hbl : (bvs xs).length = m * 1 := by rw [bvs_len, hm]; omega
      have hone : ∀ u ∈ bvs xs, u.oneCell' = true := by intro u hu; obtain ⟨x, _, rfl⟩ := List.mem_map.1 hu; rfl
      clear hi0 h0 h2 d hx had hl hm hf a hb hba hb1 hbx hB
      go_enter Try.func104, Try.ntmps104
      go_wp2_with fail
      refine HC.mono ?_
      rintro e w1 ⟨rfl, b1, k1⟩
      obtain ⟨c0, d1, hx1, hs1, hA⟩ := (show ∀ w1 : World, _ from HZ) w1 b1 k1
      have HA : Hid (∀ v2 w2, w2.ownsRow B 5 1 v2 (l1.length + m) (bvs l1 ++ bvs xs) → w1.grownBy w2 im.ownBlock → _) := hA
      clear HC HZ b1 k1 hA
      go_wp2_with (at_builtin; refine wpList_append_own _ rfl (.tmp 15) (.tmp 16) 26 rfl B 5 i0 (.int .u8 0) 1 1 Try.underlying26 HI0 hz0 hz1 hz2 rfl (by decide) _ _ _ rfl d1 ad m c (bvs xs) rfl hbl hx1 hone (by unfold maxLen; omega) (by omega) hs1 ?_; intro v2 w2 hown1 hgrow1 _; obtain ⟨⟨e2, f2⟩, y1, y2⟩ := (show ∀ v2 w2, _ → _ → _ from HA) v2 w2 hown1 hgrow1; obtain ⟨p2, c2, hv2⟩ := own_shape hown1; subst hv2)
      have HN : Hid _ := (⟨y1, y2⟩ : _ ∧ _)
      clear y1 y2 HA hown1 hgrow1 d1 hx1 hs1
      go_wp2_with fail
      exact ⟨rfl, .tuple #[], by simp [results, Try.results104], rfl, (show _ ∧ _ from HN).1, (show _ ∧ _ from HN).2⟩
    · have HC := ps_long (64 - (l1.length : Int)) (m : Int) h2 (by omega) (by omega)
      have HZ : Hid (∀ w1 : World, w1.heap[wb]? = some (.cells #[im, .int .i64 (64 - (l1.length : Int)), .bool true] 136 (0, 0)) → Kz wb W w1 → WS6 B wb (l1 ++ xs) w1 ∧ Kw B wb W w1) := (fun w1 b1 k1 => ⟨⟨h0, by rw [k1.size]; exact hB, hba, im, _, _, l1, b1, own_keep d (fun g e => k1.block g (by have := (d.lt g e).1; omega)), a, hb1, .inr ⟨rfl, by rw [List.length_append]; omega⟩⟩, Kw.of_kz k1⟩ : ∀ w1 : World, _)
      clear h0 h2 d hx had hl hm hf a hb hba hb1 hbx hB
      go_enter Try.func104, Try.ntmps104
      go_wp2_with fail
      refine HC.mono ?_
      rintro e w1 ⟨rfl, b1, k1⟩
      have HN : Hid _ := (show ∀ w1 : World, _ from HZ) w1 b1 k1
      clear HC HZ b1 k1
      go_wp2_with fail
      exact ⟨rfl, .tuple #[], by simp [results, Try.results104], rfl, (show _ ∧ _ from HN).1, (show _ ∧ _ from HN).2⟩
  · have HC := ps_lost lf (m : Int) h2
    have HZ : Hid (∀ w1 : World, w1.heap[wb]? = some (.cells #[im, .int .i64 lf, .bool true] 136 (0, 0)) → Kz wb W w1 → WS6 B wb (l ++ xs) w1 ∧ Kw B wb W w1) := (fun w1 b1 k1 => ⟨⟨h0, by rw [k1.size]; exact hB, hba, im, _, _, l1, b1, own_keep d (fun g e => k1.block g (by have := (d.lt g e).1; omega)), a, hb1, .inr ⟨rfl, by rw [List.length_append]; omega⟩⟩, Kw.of_kz k1⟩ : ∀ w1 : World, _)
    clear h0 h2 hx had hl hm a d hb hba hb1 hbx hB
    go_enter Try.func104, Try.ntmps104
    go_wp2_with fail
    refine HC.mono ?_
    rintro e w1 ⟨rfl, b1, k1⟩
    have HN : Hid _ := (show ∀ w1 : World, _ from HZ) w1 b1 k1
    clear HC HZ b1 k1
    go_wp2_with fail
    exact ⟨rfl, .tuple #[], by simp [results, Try.results104], rfl, (show _ ∧ _ from HN).1, (show _ ∧ _ from HN).2⟩
theorem im_put16 {B wb : Nat} {W : World} {l : List Int} (hw : WS6 B wb l W) (b : Int) (h0 : 0 ≤ b) (h1 : b ≤ 255) :
    Calls Try.prog 104 #[.pointer (some ⟨wb, 0, none⟩), .slice (some ⟨W.heap.size, 0, none⟩) 1 1] (W.alloc (.cells #[.int .u8 b] 5)) (WP6 B wb W (l ++ [b])) := by
  have hlt : wb < W.heap.size := Nat.lt_of_lt_of_le hw.1 hw.2.1
  refine (im_put6 (c := 1) (ad := ⟨W.heap.size, 0, none⟩) [b] (hw.call (kb_alloc 0 W (.cells #[.int .u8 b] 5))) (by show W.heap.size ≠ _; omega) (fun j u hu => ?_) (by simp) (fun x hx => by rw [List.mem_singleton] at hx; subst hx; exact ⟨h0, h1⟩)).mono ?_
  · exact qr_cells W #[.int .u8 b] 5 _ rfl j u hu
  · rintro e w' ⟨h1, h2, h3⟩
    exact ⟨h1, h2, (Kw.of_kb (kb_alloc 0 W _)).trans h3⟩
set_option maxHeartbeats 8000000 in
theorem im_eight6 {B wb : Nat} {W : World} {l : List Int} (n : Int) (h0 : -9223372036854775808 ≤ n) (h1 : n ≤ 9223372036854775807) (hw : WS6 B wb l W) :
    Calls Try.prog 105 #[.pointer (some ⟨wb, 0, none⟩), .int .i64 n] W (WP6 B wb W (l ++ eig (n % 18446744073709551616).toNat 8)) := by
  obtain ⟨N, hN⟩ : ∃ N, N = (n % 18446744073709551616).toNat := ⟨_, rfl⟩
  have HB : Hid (∀ k, k < 8 → (n / 256 ^ k) % 256 = ((N / 256 ^ k % 256 : Nat) : Int)) := (by rw [hN]; exact fun k hk => eig_byte n k hk : ∀ k, _)
  rw [← hN]
  have HW : Hid (WS6 B wb l W) := hw
  clear hw hN h0 h1
  go_enter Try.func105, Try.ntmps105
  go_wp2_with fail
  go_loopw [1, 4] (fun s1 s4 wr => ∃ k : Nat, s4 = .int .i64 (k : Int) ∧ k ≤ 8 ∧ s1 = .int .i64 (n / 256 ^ k) ∧ Hid (WS6 B wb (l ++ eig N k) wr ∧ Kw B wb W wr)) (fun _ s4 _ => 8 - (intOf s4).toNat)
  case atStart => exact ⟨0, rfl, by omega, by simp, (⟨by rw [show eig N 0 = [] from rfl, List.append_nil]; exact HW, Kw.refl _ _ _⟩ : _ ∧ _)⟩
  case round =>
    clear HW
    obtain ⟨k, rfl, hk, rfl, HX⟩ := hrel
    obtain ⟨hw, hok⟩ := (show WS6 B wb (l ++ eig N k) wr ∧ Kw B wb W wr from HX)
    rcases Nat.lt_or_ge k 8 with hk8 | hk8
    case inr =>
      obtain rfl : k = 8 := by omega
      clear hw hok HB
      go_wp2_with fail
      exact ⟨rfl, .tuple #[], by simp [results, Try.results105], rfl, (show _ ∧ _ from HX).1, (show _ ∧ _ from HX).2⟩
    have hkI : (k : Int) < 8 := by omega
    obtain ⟨X, hX⟩ : ∃ X, X = n / 256 ^ k := ⟨_, rfl⟩
    have hbt := (show ∀ k, k < 8 → _ from HB) k hk8
    rw [← hX] at hbt
    rw [← hX]
    obtain ⟨b, hb⟩ : ∃ b : Int, b = ((N / 256 ^ k % 256 : Nat) : Int) := ⟨_, rfl⟩
    have hcv : IntKind.u8.wrap X = b := by rw [wrap_u8, hbt, hb]
    have HC := im_put16 hw b (by omega) (by omega)
    have HO : Hid (Kw B wb W wr ∧ l ++ eig N (k + 1) = (l ++ eig N k) ++ [b] ∧ X / 256 = n / 256 ^ (k + 1)) := (⟨hok, by rw [hb]; show l ++ (eig N k ++ [_]) = _; rw [List.append_assoc], by rw [hX]; exact shr_step n k⟩ : _ ∧ _)
    have hsh : X >>> (8 : Nat) = X / 256 := by rw [Int.shiftRight_eq_div_pow]; rfl
    clear hw hok HX hbt hb HB hX
    go_wp2_with fail
    refine HC.mono ?_
    rintro e w2 ⟨rfl, y1, y2⟩
    obtain ⟨o1, o2, o3⟩ := (show _ ∧ _ ∧ _ from HO)
    have HN : Hid (WS6 B wb (l ++ eig N (k + 1)) w2 ∧ Kw B wb W w2) := (⟨by rw [o2]; exact y1, o1.trans y2⟩ : _ ∧ _)
    have HN3 : Hid (X / 256 = n / 256 ^ (k + 1)) := o3
    clear HC y1 y2 o1 o2 o3 HO
    go_wp2_with fail
    go_roundw
    case rel => exact ⟨k + 1, by go_num, by omega, by rw [show X / 256 = _ from HN3], HN⟩
    case measure => simp [intOf]; omega
end Go.Proofs.Ytaggciimacanbaa.Fo

namespace Go.Proofs.Ytaggciimacanbaa.Fo
open Go.ChangeShapes Go.WideShapes Go.ChangeAt Go.RowKit
set_option linter.unusedVariables false
set_option maxRecDepth 100000
/-- the cells of a page -/
def pgl (A : Nat → Int) : List Value := (List.range 64).map (fun j => .int .u8 (A j))
theorem pgl_len (A : Nat → Int) : (pgl A).length = 64 := by unfold pgl; simp
theorem pgl_at (A : Nat → Int) (j : Nat) (h : j < 64) : (pgl A)[j]? = some (.int .u8 (A j)) := by unfold pgl; simp [h]
theorem pgl_one (A : Nat → Int) : ∀ v ∈ pgl A, v.oneCell' = true := fun v hv => by
  unfold pgl at hv
  obtain ⟨j, _, rfl⟩ := List.mem_map.1 hv
  rfl
theorem pgl_ext {A B : Nat → Int} (h : ∀ j, j < 64 → A j = B j) : pgl A = pgl B := by
  unfold pgl
  exact List.map_congr_left (fun j hj => by rw [h j (List.mem_range.1 hj)])
/-- bytes with zeros behind them -/
def pad (n : Nat) (A : Nat → Int) : Nat → Int := fun j => if j < n then A j else 0
theorem infoP : (Try.prog.info? 92).map (·.size) = some 64 := by kernel_rfl
theorem infoU : (Try.prog.info? 5).map (·.size) = some 1 := by kernel_rfl
theorem und_page : Try.prog.underlying 92 = some (.array 64 5) := by kernel_rfl
def Z64 : Array Value := Array.replicate 64 (.int .u8 0)
theorem z64_pg : Z64.toList = pgl (fun _ => 0) := by
  unfold Z64 pgl
  rw [Array.toList_replicate]
  rfl
theorem two_new (w : World) (a b : Array Value) (t1 t2 : TypeId) (W : World) (h : W = (w.alloc (.cells a t1)).alloc (.cells b t2)) : W.heap[w.heap.size]? = some (.cells a t1 (0, 0)) ∧ W.heap[w.heap.size + 1]? = some (.cells b t2 (0, 0)) ∧ W.heap.size = w.heap.size + 2 ∧ Kb 0 w W := by
  subst h
  have e1 : (w.alloc (.cells a t1)).heap.size = w.heap.size + 1 := World.size_alloc _ _
  refine ⟨?_, ?_, by rw [World.size_alloc, e1], kb_alloc2 _ _ _ _⟩
  · rw [(kb_alloc 0 _ _).block _ (Nat.zero_le _) (by omega)]
    exact alloc_new _ _ _
  · rw [← e1]
    exact alloc_new _ _ _
theorem setCells_frame (b : Nat) : ∀ (vs : List Value) (o : Nat) (w : World), (w.setCells b o vs).os = w.os ∧ (w.setCells b o vs).output = w.output ∧ (w.setCells b o vs).heap.size = w.heap.size ∧ ∀ k, k ≠ b → (w.setCells b o vs).heap[k]? = w.heap[k]?
  | [], _, _ => ⟨rfl, rfl, rfl, fun _ _ => rfl⟩
  | v :: r, o, w => by
    obtain ⟨h1, h2, h3, h4⟩ := setCells_frame b r (o + 1) (w.setCell ⟨b, o, none⟩ v)
    rw [World.setCells]
    exact ⟨h1, h2, h3.trans (World.size_setCell _ _ _), fun k hk => (h4 k hk).trans (Below.heap_setCell _ _ _ _ hk)⟩
theorem range_blk {W : World} {b : Nat} {c : Array Value} {t : TypeId} {fr : Nat × Nat} (h : W.heap[b]? = some (.cells c t fr)) : W.rangeAt b 0 c.toList := fun j v hv => by
  simp only [World.cell?, h, Nat.zero_add]
  simpa using hv
theorem there_blk {W : World} {b : Nat} {c : Array Value} {t : TypeId} (h : W.heap[b]? = some (.cells c t (0, 0))) (o n : Nat) (hn : o + n ≤ c.size) : W.there b o n := fun j hj => by
  refine ⟨?_, frozen_of h⟩
  have : o + j < c.size := by omega
  simp [World.cell?, h, this]
set_option maxHeartbeats 4000000 in
theorem im_pageof {va : Value} {n : Nat} {A : Nat → Int} (w : World) (ha : RowV w va n (fun i => .int .u8 (A i))) (hn : n ≤ 64) :
    Calls Try.prog 69 #[va] w fun e w' => e = .returned (.agg (pgl (pad n A)).toArray) ∧ Kb 0 w w' := by
  obtain ⟨pa, ca, rfl, ha2⟩ := ha
  obtain ⟨w2, hw2⟩ : ∃ w2, w2 = (w.alloc (.cells Z64 92)).alloc (.cells Z64 92) := ⟨_, rfl⟩
  obtain ⟨b1, b2, z2, k2⟩ := two_new w _ _ _ _ w2 hw2
  obtain ⟨cs, hcs⟩ : ∃ cs, cs = ((List.range n).map (fun j => Value.int .u8 (A j))) := ⟨_, rfl⟩
  have hcl : cs.length = n := by rw [hcs]; simp
  have hc1 : ∀ v ∈ cs, v.oneCell' = true := fun v hv => by
    rw [hcs] at hv
    obtain ⟨j, _, rfl⟩ := List.mem_map.1 hv
    rfl
  have hca : ∀ j, j < n → cs[j]? = some (.int .u8 (A j)) := fun j hj => by rw [hcs]; simp [hj]
  have t2 : w2.there (w.heap.size + 1) 0 n := there_blk b2 0 n (by show 0 + n ≤ 64; omega)
  obtain ⟨w3, hw3⟩ : ∃ w3, w3 = w2.setCells (w.heap.size + 1) 0 cs := ⟨_, rfl⟩
  have hcp : (Builtin.copy_ #[26, 26] 3 #[.slice (some ⟨w.heap.size + 1, 0, none⟩) 64 64, .slice pa n ca]).run Try.prog w2 = .ok (.int .i64 (n : Int)) w3 := by
    by_cases h0 : n = 0
    · have e := run_copy_none (P := Try.prog) w2 26 26 3 5 (some ⟨w.heap.size + 1, 0, none⟩) pa 64 64 n ca Try.underlying26 infoU (by rw [h0]; rfl)
      rw [e, hw3, hcs, h0]
      rfl
    · obtain ⟨a, rfl, hcc, hra⟩ := ha2 (by omega)
      have e := run_copy_cells (P := Try.prog) w2 26 26 3 5 (w.heap.size + 1) 0 64 64 a n ca cs Try.underlying26 infoU (by rw [hcl]; exact (Nat.min_eq_left hn).symm) (fun j v hv => by
        have hj : j < n := by rw [← hcl]; exact (List.getElem?_eq_some_iff.1 hv).1
        rw [hca j hj] at hv
        injection hv with hv
        subst hv
        exact k2.cell (hra j hj)) (fun j hj => (t2 j (by omega)).1) (fun j hj => (t2 j (by omega)).2) hc1
      rw [e, hw3, hcl]
      rfl
  obtain ⟨f1, f2, f3, f4⟩ := setCells_frame (w.heap.size + 1) cs 0 w2
  rw [← hw3] at f1 f2 f3 f4
  have r3 : w3.rangeAt (w.heap.size + 1) 0 (pgl (pad n A)) := fun j v hv => by
    have hj : j < 64 := by rw [← pgl_len (pad n A)]; exact (List.getElem?_eq_some_iff.1 hv).1
    rw [pgl_at _ j hj] at hv
    injection hv with hv
    subst hv
    rw [hw3]
    unfold pad
    rcases Nat.lt_or_ge j n with h | h
    · rw [if_pos h, World.cell?_setCells_in _ cs 0 w2 (fun i hi => (t2 i (by omega)).1) j (by omega)]
      have := hca j h
      rw [List.getElem?_eq_getElem (by omega)] at this
      exact this
    · rw [if_neg (by omega), World.cell?_setCells_out _ cs 0 w2 _ (fun _ _ => .inr (by show 0 + cs.length ≤ 0 + j; omega))]
      exact range_blk b2 j _ (by rw [z64_pg]; exact pgl_at _ j hj)
  have b13 : w3.heap[w.heap.size]? = some (.cells Z64 92 (0, 0)) := (f4 _ (by omega)).trans b1
  obtain ⟨w4, hw4⟩ : ∃ w4, w4 = w3.setCells w.heap.size 0 (pgl (pad n A)) := ⟨_, rfl⟩
  have t3 : w3.there w.heap.size 0 64 := there_blk b13 0 64 (by show 0 + 64 ≤ 64; omega)
  obtain ⟨g1, g2, g3, g4⟩ := setCells_frame w.heap.size (pgl (pad n A)) 0 w3
  rw [← hw4] at g1 g2 g3 g4
  have r4 : w4.rangeAt w.heap.size 0 (pgl (pad n A)) := by rw [hw4]; exact World.rangeAt_setCells_same _ _ _ _ (by rw [pgl_len]; exact t3)
  have hl4 := run_loadVar_mid (P := Try.prog) w4 w.heap.size 0 92 (pgl (pad n A)) _ r4 und_page rfl (by rw [pgl_len]; exact infoP)
  have kF : Kb 0 w w4 := ⟨g1.trans (f1.trans k2.os), g2.trans (f2.trans k2.output), by have := k2.size; omega, fun q _ hq => (g4 q (by omega)).trans ((f4 q (by omega)).trans (k2.block q (Nat.zero_le _) hq))⟩
  have HF : Hid (Kb 0 w w4) := kF
  have HW : Hid (w2 = (w.alloc (.cells Z64 92)).alloc (.cells Z64 92)) := hw2
  obtain ⟨PG, hPG⟩ : ∃ PG, PG = pgl (pad n A) := ⟨_, rfl⟩
  have hPl : PG.length = 64 := by rw [hPG]; exact pgl_len _
  have hi : (Try.prog.info? 92).map (·.size) = some PG.length := by rw [hPl]; exact infoP
  have hi2 : (Try.prog.info? 92).map (·.size) = some PG.toArray.size := by rw [List.size_toArray]; exact hi
  have h1 : PG.toArray.all (·.oneCell') = true := by rw [hPG]; exact all_oneCell_toArray (pgl_one _)
  rw [← hPG] at hw4 hl4 r3 ⊢
  have t3' : w3.there w.heap.size 0 PG.toArray.size := (by rw [hPl]; exact t3 : w3.there w.heap.size 0 PG.length)
  have HR : Hid (w3.rangeAt (w.heap.size + 1) 0 PG ∧ w3.there w.heap.size 0 PG.toArray.size ∧ w4 = w3.setCells w.heap.size 0 PG.toArray.toList ∧ (Try.prog.info? 92).map (·.size) = some PG.length ∧ (Try.prog.info? 92).map (·.size) = some PG.toArray.size ∧ PG.toArray.all (·.oneCell') = true) := (⟨r3, t3', by rw [List.toList_toArray]; exact hw4, hi, hi2, h1⟩ : _ ∧ _)
  clear ha2 hw2 b1 b2 z2 k2 hcs hcl hc1 hca t2 hw3 f1 f2 f3 f4 r3 b13 hw4 t3 t3' g1 g2 g3 g4 r4 kF hPG hn hPl hi hi2 h1
  go_enter Try.func69, Try.ntmps69
  go_upto_region 2 with fail
  generalize hwg : World.alloc (World.alloc w _) _ = wg
  have hwe : wg = w2 := hwg.symm.trans (show w2 = _ from HW).symm
  rw [hwe]
  clear HW hwg hwe
  go_wp2_with (first | (refine wpList_load_mid (by rfl) 92 (.tmp 3) (by rfl) (w.heap.size + 1) 0 (by rfl) PG _ (show _ ∧ _ from HR).1 und_page rfl (show _ ∧ _ ∧ _ ∧ _ ∧ _ from HR).2.2.2.1 ?_) | (refine wpList_store_mid (by rfl) 92 (.tmp 2) (.tmp 7) (by rfl) w.heap.size 0 PG.toArray (by rfl) (by rfl) (show _ ∧ _ ∧ _ from HR).2.1 (show _ ∧ _ ∧ _ ∧ _ ∧ _ ∧ _ from HR).2.2.2.2.1 (show _ ∧ _ ∧ _ ∧ _ ∧ _ ∧ _ from HR).2.2.2.2.2 ?_; rw [← (show _ ∧ _ ∧ _ ∧ _ from HR).2.2.1]))
  refine bodyPost_ret (v := .agg PG.toArray) ?_ rfl ⟨rfl, HF⟩
  simp [results, Try.results69, asAddr, hl4]
set_option maxHeartbeats 4000000 in
theorem im_bytes {cs : Array Value} (w : World) :
    Calls Try.prog 70 #[.agg cs] w fun e w' => e = .returned (.slice (some ⟨w.heap.size, 0, none⟩) 64 64) ∧ w' = w.alloc (.cells cs 92) := by
  go_enter Try.func70, Try.ntmps70
  go_wp2_with fail
  go_ret
  exact ⟨rfl, rfl⟩
/-- the row that bytes gives -/
theorem own_page {w w' : World} {A : Nat → Int} (h : w' = w.alloc (.cells (pgl A).toArray 92)) : OwnR w' (.slice (some ⟨w.heap.size, 0, none⟩) 64 64) w.heap.size 64 (fun i => .int .u8 (A i)) := by
  have b : w'.heap[w.heap.size]? = some (.cells (pgl A).toArray 92 (0, 0)) := by rw [h]; exact alloc_new _ _ _
  exact ⟨⟨_, _, rfl, fun _ => ⟨rfl, Nat.le_refl _⟩⟩, fun i hi => cell_of b (by simpa using pgl_at A i hi), fun _ j => frozen_of b⟩
end Go.Proofs.Ytaggciimacanbaa.Fo

namespace Go.Proofs.Ytaggciimacanbaa.Fo
open Go.ChangeShapes Go.WideShapes Go.ChangeAt Go.RowKit
set_option linter.unusedVariables false
set_option maxRecDepth 100000
/-- eight bytes of a number -/
def n8 (n : Int) : List Int := eig (n % 18446744073709551616).toNat 8
def hd28 (g l s : Int) : List Int := (([72, 69, 65, 68] ++ n8 g) ++ n8 l) ++ n8 s
def hd36 (g l s : Int) : List Int := hd28 g l s ++ eig (sm64 (hd28 g l s)) 8
/-- the block of a head -/
def hdb (g l s : Int) : Nat → Int := pad 36 (fun i => (hd36 g l s).getD i 0)
def Hok (ok : Bool) (g l : Int) : Prop := ok = true ∧ 1 ≤ g ∧ g ≤ 1000000000000 ∧ 1 ≤ l ∧ l ≤ 8192
theorem n8_len (n : Int) : (n8 n).length = 8 := eig_len _ _
theorem hd28_len (g l s : Int) : (hd28 g l s).length = 28 := by unfold hd28; simp [n8_len]
theorem hd36_len (g l s : Int) : (hd36 g l s).length = 36 := by unfold hd36; rw [List.length_append, hd28_len, eig_len]
theorem hd28_bok (g l s : Int) : Bok (hd28 g l s) := by
  unfold hd28 n8
  exact (((show Bok [72, 69, 65, 68] from fun x hx => by simp at hx; omega).app (eig_bok _ _)).app (eig_bok _ _)).app (eig_bok _ _)
theorem hd36_bok (g l s : Int) : Bok (hd36 g l s) := (hd28_bok g l s).app (eig_bok _ _)
theorem hdb_rg (g l s : Int) (i : Nat) : 0 ≤ hdb g l s i ∧ hdb g l s i ≤ 255 := by
  unfold hdb pad
  split
  · rename_i h
    exact bok_getD (hd36_bok g l s) i (by rw [hd36_len]; exact h)
  · omega
theorem wrap64_back2 {x : Int} (h0 : 0 ≤ x) (h1 : x < 18446744073709551616) : wrap64 x % 18446744073709551616 = x := by unfold wrap64; omega
set_option maxHeartbeats 8000000 in
theorem im_head_no {ok : Bool} {g l s : Int} (w : World) (h : ¬ Hok ok g l) :
    Calls Try.prog 71 #[.agg #[.bool ok, .int .i64 g, .int .i64 l, .int .i64 s]] w fun e w' => e = .returned (.slice none 0 0) ∧ Kb 0 w w' := by
  cases ok with
  | false =>
    clear h
    go_enter Try.func71, Try.ntmps71
    go_wp2_with fail
    go_ret
    exact ⟨rfl, kb_alloc _ _ _⟩
  | true =>
    by_cases h1 : g < 1
    · clear h
      go_enter Try.func71, Try.ntmps71
      go_wp2_with fail
      go_ret
      exact ⟨rfl, kb_alloc _ _ _⟩
    by_cases h2 : 1000000000000 < g
    · clear h
      go_enter Try.func71, Try.ntmps71
      go_wp2_with fail
      go_ret
      exact ⟨rfl, kb_alloc _ _ _⟩
    by_cases h3 : l < 1
    · clear h
      go_enter Try.func71, Try.ntmps71
      go_wp2_with fail
      go_ret
      exact ⟨rfl, kb_alloc _ _ _⟩
    have h4 : 8192 < l := by
      rcases Int.lt_or_le 8192 l with q | q
      · exact q
      · exact (h ⟨rfl, by omega, by omega, by omega, q⟩).elim
    clear h
    go_enter Try.func71, Try.ntmps71
    go_wp2_with fail
    go_ret
    exact ⟨rfl, kb_alloc _ _ _⟩
set_option maxHeartbeats 16000000 in
theorem im_head_yes {ok : Bool} {g l s : Int} (w : World) (h : Hok ok g l) (hs0 : -9223372036854775808 ≤ s) (hs1 : s ≤ 9223372036854775807) :
    Calls Try.prog 71 #[.agg #[.bool ok, .int .i64 g, .int .i64 l, .int .i64 s]] w fun e w' => ∃ b, e = .returned (.slice (some ⟨b, 0, none⟩) 64 64) ∧ w.heap.size ≤ b ∧ b < w'.heap.size ∧ OwnR w' (.slice (some ⟨b, 0, none⟩) 64 64) b 64 (fun i => .int .u8 (hdb g l s i)) ∧ Kb 0 w w' := by
  obtain ⟨rfl, h1, h2, h3, h4⟩ := h
  have g1 : ¬ g < 1 := by omega
  have g2 : ¬ 1000000000000 < g := by omega
  have g3 : ¬ l < 1 := by omega
  have g4 : ¬ 8192 < l := by omega
  obtain ⟨w3, hw3⟩ : ∃ w3, w3 = w.alloc (.cells #[.bool true, .int .i64 g, .int .i64 l, .int .i64 s] 46) := ⟨_, rfl⟩
  have k03 : Kb 0 w w3 := by rw [hw3]; exact kb_alloc _ _ _
  have z3 : w3.heap.size = w.heap.size + 1 := by rw [hw3]; simp
  have b3 : w3.heap[w.heap.size]? = some (.cells #[.bool true, .int .i64 g, .int .i64 l, .int .i64 s] 46 (0, 0)) := by rw [hw3]; exact alloc_new _ _ _
  obtain ⟨w4, hw4⟩ : ∃ w4, w4 = w3.alloc (.cells #[.slice none 0 0, .int .i64 64, .bool false] 136) := ⟨_, rfl⟩
  have k4 : Kb 0 w3 w4 := by rw [hw4]; exact kb_alloc _ _ _
  have z4 : w4.heap.size = w3.heap.size + 1 := by rw [hw4]; simp
  have b4 : w4.heap[w3.heap.size]? = some (.cells #[.slice none 0 0, .int .i64 64, .bool false] 136 (0, 0)) := by rw [hw4]; exact alloc_new _ _ _
  obtain ⟨wb, hwb⟩ : ∃ wb, wb = w.heap.size + 1 := ⟨_, rfl⟩
  have hwb3 : wb = w3.heap.size := by omega
  rw [← hwb3] at b4
  have hws : WS6 (wb + 1) wb [] w4 := ⟨by omega, by omega, bok_nil, _, _, _, [], b4, World.ownsRow_nil _ _ _ _, by simp, bok_nil, .inl ⟨rfl, rfl, by simp⟩⟩
  obtain ⟨w5, hw5⟩ : ∃ w5, w5 = w4.alloc (.cells #[.int .u8 72, .int .u8 69, .int .u8 65, .int .u8 68] 5 (4, 5)) := ⟨_, rfl⟩
  have k5 : Kb 0 w4 w5 := by rw [hw5]; exact kb_alloc _ _ _
  have HP1 := im_put6 (c := 4) (ad := ⟨w4.heap.size, 0, none⟩) [72, 69, 65, 68] (hws.call k5) (by show w4.heap.size ≠ wb; omega) (by rw [hw5]; exact qr_cells2 w4 #[.int .u8 72, .int .u8 69, .int .u8 65, .int .u8 68] 5 (4, 5) _ rfl) (by simp) (fun x hx => by simp at hx; omega)
  have hcv := Lib.run_convert_bytes_const (P := Try.prog) w4 26 5 #[.int .u8 72, .int .u8 69, .int .u8 65, .int .u8 68] 4 4 Try.underlying26 Try.underlying5
  have HB : Hid (Kb 0 w w5 ∧ w5.heap[w.heap.size]? = some (.cells #[.bool true, .int .i64 g, .int .i64 l, .int .i64 s] 46 (0, 0)) ∧ wb = w.heap.size + 1 ∧ w.heap.size + 2 ≤ w5.heap.size) := (⟨(k03.trans k4).trans k5, (k5.block _ (Nat.zero_le _) (by omega)).trans ((k4.block _ (Nat.zero_le _) (by omega)).trans b3), hwb, by have := k5.size; omega⟩ : _ ∧ _)
  have HW3 : Hid (w3 = w.alloc (.cells #[.bool true, .int .i64 g, .int .i64 l, .int .i64 s] 46)) := hw3
  have HW4 : Hid (w4 = w3.alloc (.cells #[.slice none 0 0, .int .i64 64, .bool false] 136) ∧ wb = w.heap.size + 1) := (⟨hw4, hwb⟩ : _ ∧ _)
  have HW5 : Hid (w5 = w4.alloc (.cells #[.int .u8 72, .int .u8 69, .int .u8 65, .int .u8 68] 5 (4, 5))) := hw5
  have HR : Hid (1 ≤ g ∧ g ≤ 1000000000000 ∧ 1 ≤ l ∧ l ≤ 8192) := (⟨h1, h2, h3, h4⟩ : _ ∧ _)
  have HS : Hid (-9223372036854775808 ≤ s ∧ s ≤ 9223372036854775807) := (⟨hs0, hs1⟩ : _ ∧ _)
  clear hw3 k03 z3 b3 hw4 k4 z4 b4 hwb hwb3 hws hw5 k5 h1 h2 h3 h4 hs0 hs1
  go_enter Try.func71, Try.ntmps71
  go_upto_region 4 with fail
  rw [← (show w3 = _ from HW3), ← (show _ ∧ _ from HW4).1, ← (show _ ∧ _ from HW4).2]
  clear HW3 HW4 g1 g2 g3 g4
  go_wp2_with fail
  rw [← (show w5 = _ from HW5)]
  clear HW5 hcv
  refine HP1.mono ?_
  rintro e w6 ⟨rfl, y1, y2⟩
  clear HP1
  have HY6 : Hid (Kw (wb + 1) wb w5 w6) := y2
  have c6 : w6.cell? ⟨w.heap.size, 1, none⟩ = some (.int .i64 g) := cell_of ((show Kw (wb + 1) wb w5 w6 from HY6).cells (show _ ∧ _ ∧ _ from HB).2.1 (by decide) (by have := (show _ ∧ _ ∧ _ ∧ _ from HB).2.2.1; omega)) rfl
  have HE6 := im_eight6 g (by have := (show _ ∧ _ ∧ _ ∧ _ from HR).1; omega) (by have := (show _ ∧ _ ∧ _ ∧ _ from HR).2.1; omega) y1
  clear y1 y2
  go_upto_region 6 with (go_at_call 105; refine HE6.mono ?_; rintro e w7 ⟨rfl, y1, y2⟩)
  have HY7 : Hid (Kw (wb + 1) wb w5 w7) := (show Kw (wb + 1) wb w5 w6 from HY6).trans y2
  clear HE6 c6 HY6
  have c7 : w7.cell? ⟨w.heap.size, 2, none⟩ = some (.int .i64 l) := cell_of ((show Kw (wb + 1) wb w5 w7 from HY7).cells (show _ ∧ _ ∧ _ from HB).2.1 (by decide) (by have := (show _ ∧ _ ∧ _ ∧ _ from HB).2.2.1; omega)) rfl
  have HE7 := im_eight6 l (by have := (show _ ∧ _ ∧ _ ∧ _ from HR).2.2.1; omega) (by have := (show _ ∧ _ ∧ _ ∧ _ from HR).2.2.2; omega) y1
  clear y1 y2
  go_upto_region 7 with (go_at_call 105; refine HE7.mono ?_; rintro e w8 ⟨rfl, y1, y2⟩)
  have HY8 : Hid (Kw (wb + 1) wb w5 w8) := (show Kw (wb + 1) wb w5 w7 from HY7).trans y2
  clear HE7 c7 HY7
  have c8 : w8.cell? ⟨w.heap.size, 3, none⟩ = some (.int .i64 s) := cell_of ((show Kw (wb + 1) wb w5 w8 from HY8).cells (show _ ∧ _ ∧ _ from HB).2.1 (by decide) (by have := (show _ ∧ _ ∧ _ ∧ _ from HB).2.2.1; omega)) rfl
  have HE8 := im_eight6 s (show _ ∧ _ from HS).1 (show _ ∧ _ from HS).2 y1
  clear y1 y2
  go_upto_region 8 with (go_at_call 105; refine HE8.mono ?_; rintro e w9 ⟨rfl, y1, y2⟩)
  have HY9 : Hid (Kw (wb + 1) wb w5 w9) := (show Kw (wb + 1) wb w5 w8 from HY8).trans y2
  clear HE8 c8 HY8
  obtain ⟨L28, hL28⟩ : ∃ L, L = hd28 g l s := ⟨_, rfl⟩
  have y28 : WS6 (wb + 1) wb L28 w9 := by rw [hL28]; exact y1
  clear y1 y2
  have hl28 : L28.length = 28 := by rw [hL28]; exact hd28_len g l s
  obtain ⟨h0, hBz, hbk, im, lf, lo, l1, q2, q3, q4, q5, q6⟩ := id y28
  obtain ⟨rfl, rfl, rfl⟩ : lo = false ∧ l1 = L28 ∧ lf = 64 - (L28.length : Int) := by
    rcases q6 with q | q
    · exact q
    · have := q.2; omega
  have i0 : w9.cell? ⟨wb, 0, none⟩ = some im := cell_of q2 rfl
  have HSM := im_sumof w9 (own_rowv q3) (by omega) (bok_getD q5)
  obtain ⟨S, hS⟩ : ∃ S, S = sgz (fun i => l1.getD i 0) l1.length := ⟨_, rfl⟩
  rw [← hS] at HSM
  have hsr : (-9223372036854775808 ≤ S ∧ S ≤ 9223372036854775807) ∧ (S % 18446744073709551616).toNat = sm64 l1 := by
    have q := smz_rg (fun i => l1.getD i 0) l1.length
    have e : S = wrap64 (smz (fun i => l1.getD i 0) l1.length) := hS
    rw [e]
    exact ⟨wrap64_rg _, by rw [wrap64_back2 q.1 q.2]; rfl⟩
  have H9 : Hid (WS6 (wb + 1) wb l1 w9 ∧ ((-9223372036854775808 ≤ S ∧ S ≤ 9223372036854775807) ∧ (S % 18446744073709551616).toNat = sm64 l1) ∧ l1 = hd28 g l s ∧ l1.length = 28) := (⟨y28, hsr, hL28, hl28⟩ : _ ∧ _)
  obtain ⟨pi, ci, rfl⟩ := own_shape q3
  clear y28 h0 hBz hbk q2 q3 q4 q5 q6 hS hsr hL28 hl28
  go_wp2_with fail
  refine HSM.mono ?_
  rintro e w10 ⟨rfl, k10⟩
  clear HSM i0
  obtain ⟨y28, hsr, hL28, hl28⟩ := (show _ ∧ _ ∧ _ ∧ _ from H9)
  have HE := im_eight6 S hsr.1.1 hsr.1.2 (y28.call k10)
  rw [hsr.2] at HE
  have HY10 : Hid (Kw (wb + 1) wb w5 w10) := (show Kw (wb + 1) wb w5 w9 from HY9).trans (Kw.of_kb k10)
  clear HY9 y28 hsr hL28 hl28 k10
  go_wp2_with fail
  refine HE.mono ?_
  rintro e w11 ⟨rfl, y1, y2⟩
  clear HE
  obtain ⟨-, -, hL28, hl28⟩ := (show _ ∧ _ ∧ _ ∧ _ from H9)
  have k11 := (show Kw (wb + 1) wb w5 w10 from HY10).trans y2
  obtain ⟨kw5, b5, hwb, hz5⟩ := (show _ ∧ _ ∧ _ ∧ _ from HB)
  have kw11 : Kb 0 w w11 := k11.kb kw5 (by omega) (by omega)
  obtain ⟨h0, hBz, hbk, im, lf, lo, l2, q2, q3, q4, q5, q6⟩ := y1
  obtain ⟨rfl, hl2, rfl⟩ : lo = false ∧ l2 = l1 ++ eig (sm64 l1) 8 ∧ lf = 64 - ((l1 ++ eig (sm64 l1) 8).length : Int) := by
    rcases q6 with q | q
    · exact q
    · have := q.2
      rw [List.length_append, eig_len] at this
      omega
  have hl36 : l2 = hd36 g l s := by rw [hl2, hL28]; rfl
  have hn36 : l2.length = 36 := by rw [hl36]; exact hd36_len g l s
  have i0 : w11.cell? ⟨wb, 0, none⟩ = some im := cell_of q2 rfl
  have HPG := im_pageof w11 (own_rowv q3) (by omega)
  have hpad : pgl (pad l2.length (fun i => l2.getD i 0)) = pgl (hdb g l s) := by rw [hn36, hl36]; rfl
  rw [hpad] at HPG
  have HK : Hid (Kb 0 w w11) := kw11
  obtain ⟨pi, ci, rfl⟩ := own_shape q3
  clear H9 hL28 hl28 k11 kw5 b5 hwb hz5 kw11 h0 hBz hbk q2 q3 q4 q5 q6 hl2 hl36 hn36 hpad HY10 y2 HB HR HS
  go_wp2_with fail
  refine HPG.mono ?_
  rintro e w12 ⟨rfl, k12⟩
  have HBY := im_bytes (cs := (pgl (hdb g l s)).toArray) w12
  have HK12 : Hid (Kb 0 w w12) := (show Kb 0 w w11 from HK).trans k12
  clear HPG i0 HK k12
  go_wp2_with fail
  refine HBY.mono ?_
  rintro e w13 ⟨rfl, hw13⟩
  have k12 := (show Kb 0 w w12 from HK12)
  have HF : Hid (w.heap.size ≤ w12.heap.size ∧ w12.heap.size < w13.heap.size ∧ OwnR w13 (.slice (some ⟨w12.heap.size, 0, none⟩) 64 64) w12.heap.size 64 (fun i => .int .u8 (hdb g l s i)) ∧ Kb 0 w w13) := (⟨k12.size, by rw [hw13]; simp, own_page hw13, by rw [hw13]; exact k12.alloc _⟩ : _ ∧ _)
  clear HBY hw13 k12 HK12
  go_wp2_with fail
  go_ret
  exact ⟨w12.heap.size, rfl, HF⟩
end Go.Proofs.Ytaggciimacanbaa.Fo
