import Derived.Lib.SlBytesConst
import Derived.Test.YtiojjejphdhpeaaMPac
import Derived.Test.YtiojjejphdhpeaaMSup
namespace Go.Proofs.Ytiojjejphdhpeaa.Fo
open Go.ChangeShapes Go.WideShapes Go.ChangeAt Go.RowKit
set_option linter.unusedVariables false
set_option maxRecDepth 100000
/-- the sum of bytes as a word -/
def sm64 (l : List Int) : Nat := (smz (fun i => l.getD i 0) l.length).toNat
theorem smz_rg (A : Nat → Int) : ∀ i, 0 ≤ smz A i ∧ smz A i < 18446744073709551616
  | 0 => by show (0 : Int) ≤ 14695981039346656037 ∧ (14695981039346656037 : Int) < _; omega
  | i + 1 => by
    show 0 ≤ sst (smz A i) (A i) ∧ sst (smz A i) (A i) < _
    unfold sst
    rw [wrap_u64]
    omega
theorem sm64_int (l : List Int) : (sm64 l : Int) = smz (fun i => l.getD i 0) l.length := by
  have := smz_rg (fun i => l.getD i 0) l.length
  unfold sm64
  omega
theorem sm64_lt (l : List Int) : sm64 l < 18446744073709551616 := by
  have := smz_rg (fun i => l.getD i 0) l.length
  have := sm64_int l
  omega
theorem own_rowv {W : World} {B : Nat} {v : Value} {l : List Int} (h : W.ownsRow B 5 1 v l.length (bvs l)) : RowV W v l.length (fun i => .int .u8 (l.getD i 0)) := by
  obtain ⟨p, cap, hp⟩ := own_shape h
  refine ⟨p, cap, hp, fun hn => ?_⟩
  obtain ⟨g, cap', e, hB, hc, hcell⟩ := own_cells h hn
  rw [hp] at e
  injection e with e1 _ e3
  refine ⟨⟨g, 0, none⟩, e1, by omega, fun i hi => ?_⟩
  rw [addr0, hcell i (by omega)]
  unfold bvs
  show _ = some (Value.int .u8 (l.getD i 0))
  rw [List.getElem?_map, List.getD_eq_getElem?_getD, List.getElem?_eq_getElem hi]
  rfl
theorem bok_getD {l : List Int} (h : Bok l) : ∀ i, i < l.length → 0 ≤ l.getD i 0 ∧ l.getD i 0 ≤ 255 := fun i hi => by
  rw [List.getD_eq_getElem?_getD, List.getElem?_eq_getElem hi]
  exact h _ (List.getElem_mem hi)
theorem qr_cells2 (w : World) (c : Array Value) (t : TypeId) (m : Nat × Nat) (l : List Value) (hl : c.toList = l) : ∀ j u, l[j]? = some u → (w.alloc (.cells c t m)).cell? ((⟨w.heap.size, 0, none⟩ : Addr).add j) = some u := by
  intro j u hj
  subst hl
  rw [addr0, World.cell?_alloc_mark]
  simpa using hj
theorem bok_nil : Bok [] := fun x hx => by cases hx
theorem wrap64_rg (s : Int) : -9223372036854775808 ≤ wrap64 s ∧ wrap64 s ≤ 9223372036854775807 := by unfold wrap64; omega
/-- the program's writer, in block wb, has written l (or is lost, once that is too long) -/
def WS6 (B wb : Nat) (l : List Int) (W : World) : Prop := wb < B ∧ B ≤ W.heap.size ∧ Bok l ∧ ∃ im lf lo l1, W.heap[wb]? = some (.cells #[im, .int .i64 lf, .bool lo] 136 (0, 0)) ∧ W.ownsRow B 5 1 im l1.length (bvs l1) ∧ l1.length ≤ 64 ∧ Bok l1 ∧ ((lo = false ∧ l1 = l ∧ lf = 64 - (l.length : Int)) ∨ (lo = true ∧ 64 < l.length))
def WP6 (B wb : Nat) (W : World) (l : List Int) (e : Ending) (w' : World) : Prop := e = .returned (.tuple #[]) ∧ WS6 B wb l w' ∧ Kw B wb W w'
theorem WS6.call {B wb : Nat} {W W' : World} {l : List Int} (h : WS6 B wb l W) (k : Kb 0 W W') : WS6 B wb l W' := by
  obtain ⟨h0, hB, hb, im, lf, lo, l1, h2, h3, h4⟩ := h
  exact ⟨h0, Nat.le_trans hB k.size, hb, im, lf, lo, l1, (k.block _ (Nat.zero_le _) (by omega)).trans h2, own_keep h3 (fun g e => k.block g (Nat.zero_le _) (h3.lt g e).2), h4⟩
set_option maxHeartbeats 8000000 in
theorem im_put6 {B wb : Nat} {W : World} {l : List Int} {ad : Addr} {c : Nat} (xs : List Int) (hw : WS6 B wb l W) (had : ad.block ≠ wb) (hx : ∀ j u, (bvs xs)[j]? = some u → W.cell? (ad.add j) = some u) (hl : xs.length ≤ 1048576) (hbx : Bok xs) :
    Calls Try.prog 104 #[.pointer (some ⟨wb, 0, none⟩), .slice (some ad) xs.length c] W (WP6 B wb W (l ++ xs)) := by
  obtain ⟨h0, hB, hb, im, lf, lo, l1, h2, d, a, hb1, h3⟩ := hw
  obtain ⟨m, hm⟩ : ∃ m, m = xs.length := ⟨_, rfl⟩
  rw [← hm]
  have hba := hb.app hbx
  rcases h3 with ⟨rfl, rfl, rfl⟩ | ⟨rfl, hlong⟩
  · by_cases hf : (m : Int) ≤ 64 - (l1.length : Int)
    · have HC := ps_fits (64 - (l1.length : Int)) (m : Int) h2 (by omega) hf (by omega)
      obtain ⟨i0, hi0, hz0, hz1, hz2⟩ := info_parts infoB
      have HI0 : Hid (Try.prog.info? 5 = some i0) := hi0
      have HZ : Hid (∀ w1 : World, w1.heap[wb]? = some (.cells #[im, .int .i64 (64 - (l1.length : Int) - (m : Int)), .bool false] 136 (0, 0)) → Kz wb W w1 → w1.cell? ⟨wb, 0, none⟩ = some im ∧ w1.ownsRow B 5 1 im l1.length (bvs l1) ∧ (∀ j u, (bvs xs)[j]? = some u → w1.cell? (ad.add j) = some u) ∧ B ≤ w1.heap.size ∧ ∀ v2 w2, w2.ownsRow B 5 1 v2 (l1.length + m) (bvs l1 ++ bvs xs) → w1.grownBy w2 im.ownBlock → (w2.cell? ⟨wb, 0, none⟩ = some im ∧ w2.frozen? ⟨wb, 0, none⟩ = false) ∧ WS6 B wb (l1 ++ xs) (w2.setCell ⟨wb, 0, none⟩ v2) ∧ Kw B wb W (w2.setCell ⟨wb, 0, none⟩ v2)) := by
        show ∀ w1 : World, _
        intro w1 b1 k1
        have d1 : w1.ownsRow B 5 1 im l1.length (bvs l1) := own_keep d (fun g e => k1.block g (by have := (d.lt g e).1; omega))
        have hlt := (Array.getElem?_eq_some_iff.1 b1).1
        have hz1' := k1.size
        refine ⟨cell_of b1 rfl, d1, fun j u hu => ?_, by omega, fun v2 w2 ho hg => ?_⟩
        · rw [World.cell?_of_block (w := W) (by rw [ad_b']; exact k1.block _ had)]
          exact hx j u hu
        · have hne : some wb ≠ im.ownBlock := fun e => by have := (d1.lt _ e.symm).1; omega
          have b2 := (hg.block _ hlt hne).trans b1
          have b3 := set_known (j := 0) v2 b2
          have hs2 := hg.size
          have hsz : (w2.setCell ⟨wb, 0, none⟩ v2).heap.size = w2.heap.size := World.size_setCell _ _ _
          refine ⟨⟨cell_of b2 rfl, frozen_of b2⟩, ⟨h0, by omega, hba, v2, _, _, l1 ++ xs, b3, ?_, by rw [List.length_append]; omega, hba, .inl ⟨rfl, rfl, by rw [List.length_append]; omega⟩⟩, ?_⟩
          · rw [List.length_append, bvs_app, ← hm]
            exact own_keep ho (fun g e => Below.heap_setCell _ _ _ _ (show g ≠ wb by have := (ho.lt g e).1; omega))
          · exact ((Kw.of_kz k1).trans (Kw.grown d1 hg)).trans (Kw.of_kz ((Kz.refl wb w2).set 0 v2))
      have hlm : l1.length + m ≤ 64 := by omega
      have hbl : (bvs xs).length = m * 1 := by rw [bvs_len, hm]; omega
      have hone : ∀ u ∈ bvs xs, u.oneCell' = true := by intro u hu; obtain ⟨x, _, rfl⟩ := List.mem_map.1 hu; rfl
      clear hi0 h0 h2 d hx had hl hm hf a hb hba hb1 hbx hB
      go_enter Try.func104, Try.ntmps104
      go_wp2_with fail
      refine HC.mono ?_
      rintro e w1 ⟨rfl, b1, k1⟩
      obtain ⟨c0, d1, hx1, hs1, hA⟩ := (show ∀ w1 : World, _ from HZ) w1 b1 k1
      have HA : Hid (∀ v2 w2, w2.ownsRow B 5 1 v2 (l1.length + m) (bvs l1 ++ bvs xs) → w1.grownBy w2 im.ownBlock → _) := hA
      clear HC HZ b1 k1 hA
      go_wp2_with (at_builtin; refine wpList_append_own _ rfl (.tmp 15) (.tmp 16) 26 rfl B 5 i0 (.int .u8 0) 1 1 Try.underlying26 HI0 hz0 hz1 hz2 rfl (by decide) _ _ _ rfl d1 ad m c (bvs xs) rfl hbl hx1 hone (by unfold maxLen; omega) (by omega) hs1 ?_; intro v2 w2 hown1 hgrow1 _; obtain ⟨⟨e2, f2⟩, y1, y2⟩ := (show ∀ v2 w2, _ → _ → _ from HA) v2 w2 hown1 hgrow1; obtain ⟨p2, c2, hv2⟩ := own_shape hown1; subst hv2)
      have HN : Hid _ := (⟨y1, y2⟩ : _ ∧ _)
      clear y1 y2 HA hown1 hgrow1 d1 hx1 hs1
      go_wp2_with fail
      exact ⟨rfl, .tuple #[], by simp [results, Try.results104], rfl, (show _ ∧ _ from HN).1, (show _ ∧ _ from HN).2⟩
    · have HC := ps_long (64 - (l1.length : Int)) (m : Int) h2 (by omega) (by omega)
      have HZ : Hid (∀ w1 : World, w1.heap[wb]? = some (.cells #[im, .int .i64 (64 - (l1.length : Int)), .bool true] 136 (0, 0)) → Kz wb W w1 → WS6 B wb (l1 ++ xs) w1 ∧ Kw B wb W w1) := (fun w1 b1 k1 => ⟨⟨h0, by rw [k1.size]; exact hB, hba, im, _, _, l1, b1, own_keep d (fun g e => k1.block g (by have := (d.lt g e).1; omega)), a, hb1, .inr ⟨rfl, by rw [List.length_append]; omega⟩⟩, Kw.of_kz k1⟩ : ∀ w1 : World, _)
      clear h0 h2 d hx had hl hm hf a hb hba hb1 hbx hB
      go_enter Try.func104, Try.ntmps104
      go_wp2_with fail
      refine HC.mono ?_
      rintro e w1 ⟨rfl, b1, k1⟩
      have HN : Hid _ := (show ∀ w1 : World, _ from HZ) w1 b1 k1
      clear HC HZ b1 k1
      go_wp2_with fail
      exact ⟨rfl, .tuple #[], by simp [results, Try.results104], rfl, (show _ ∧ _ from HN).1, (show _ ∧ _ from HN).2⟩
  · have HC := ps_lost lf (m : Int) h2
    have HZ : Hid (∀ w1 : World, w1.heap[wb]? = some (.cells #[im, .int .i64 lf, .bool true] 136 (0, 0)) → Kz wb W w1 → WS6 B wb (l ++ xs) w1 ∧ Kw B wb W w1) := (fun w1 b1 k1 => ⟨⟨h0, by rw [k1.size]; exact hB, hba, im, _, _, l1, b1, own_keep d (fun g e => k1.block g (by have := (d.lt g e).1; omega)), a, hb1, .inr ⟨rfl, by rw [List.length_append]; omega⟩⟩, Kw.of_kz k1⟩ : ∀ w1 : World, _)
    clear h0 h2 hx had hl hm a d hb hba hb1 hbx hB
    go_enter Try.func104, Try.ntmps104
    go_wp2_with fail
    refine HC.mono ?_
    rintro e w1 ⟨rfl, b1, k1⟩
    have HN : Hid _ := (show ∀ w1 : World, _ from HZ) w1 b1 k1
    clear HC HZ b1 k1
    go_wp2_with fail
    exact ⟨rfl, .tuple #[], by simp [results, Try.results104], rfl, (show _ ∧ _ from HN).1, (show _ ∧ _ from HN).2⟩
theorem im_put16 {B wb : Nat} {W : World} {l : List Int} (hw : WS6 B wb l W) (b : Int) (h0 : 0 ≤ b) (h1 : b ≤ 255) :
    Calls Try.prog 104 #[.pointer (some ⟨wb, 0, none⟩), .slice (some ⟨W.heap.size, 0, none⟩) 1 1] (W.alloc (.cells #[.int .u8 b] 5)) (WP6 B wb W (l ++ [b])) := by
  have hlt : wb < W.heap.size := Nat.lt_of_lt_of_le hw.1 hw.2.1
  refine (im_put6 (c := 1) (ad := ⟨W.heap.size, 0, none⟩) [b] (hw.call (kb_alloc 0 W (.cells #[.int .u8 b] 5))) (by show W.heap.size ≠ _; omega) (fun j u hu => ?_) (by simp) (fun x hx => by rw [List.mem_singleton] at hx; subst hx; exact ⟨h0, h1⟩)).mono ?_
  · exact qr_cells W #[.int .u8 b] 5 _ rfl j u hu
  · rintro e w' ⟨h1, h2, h3⟩
    exact ⟨h1, h2, (Kw.of_kb (kb_alloc 0 W _)).trans h3⟩
set_option maxHeartbeats 8000000 in
theorem im_eight6 {B wb : Nat} {W : World} {l : List Int} (n : Int) (h0 : -9223372036854775808 ≤ n) (h1 : n ≤ 9223372036854775807) (hw : WS6 B wb l W) :
    Calls Try.prog 105 #[.pointer (some ⟨wb, 0, none⟩), .int .i64 n] W (WP6 B wb W (l ++ eig (n % 18446744073709551616).toNat 8)) := by
  obtain ⟨N, hN⟩ : ∃ N, N = (n % 18446744073709551616).toNat := ⟨_, rfl⟩
  have HB : Hid (∀ k, k < 8 → (n / 256 ^ k) % 256 = ((N / 256 ^ k % 256 : Nat) : Int)) := (by rw [hN]; exact fun k hk => eig_byte n k hk : ∀ k, _)
  rw [← hN]
  have HW : Hid (WS6 B wb l W) := hw
  clear hw hN h0 h1
  go_enter Try.func105, Try.ntmps105
  go_wp2_with fail
  go_loopw [1, 4] (fun s1 s4 wr => ∃ k : Nat, s4 = .int .i64 (k : Int) ∧ k ≤ 8 ∧ s1 = .int .i64 (n / 256 ^ k) ∧ Hid (WS6 B wb (l ++ eig N k) wr ∧ Kw B wb W wr)) (fun _ s4 _ => 8 - (intOf s4).toNat)
  case atStart => exact ⟨0, rfl, by omega, by simp, (⟨by rw [show eig N 0 = [] from rfl, List.append_nil]; exact HW, Kw.refl _ _ _⟩ : _ ∧ _)⟩
  case round =>
    clear HW
    obtain ⟨k, rfl, hk, rfl, HX⟩ := hrel
    obtain ⟨hw, hok⟩ := (show WS6 B wb (l ++ eig N k) wr ∧ Kw B wb W wr from HX)
    rcases Nat.lt_or_ge k 8 with hk8 | hk8
    case inr =>
      obtain rfl : k = 8 := by omega
      clear hw hok HB
      go_wp2_with fail
      exact ⟨rfl, .tuple #[], by simp [results, Try.results105], rfl, (show _ ∧ _ from HX).1, (show _ ∧ _ from HX).2⟩
    have hkI : (k : Int) < 8 := by omega
    obtain ⟨X, hX⟩ : ∃ X, X = n / 256 ^ k := ⟨_, rfl⟩
    have hbt := (show ∀ k, k < 8 → _ from HB) k hk8
    rw [← hX] at hbt
    rw [← hX]
    obtain ⟨b, hb⟩ : ∃ b : Int, b = ((N / 256 ^ k % 256 : Nat) : Int) := ⟨_, rfl⟩
    have hcv : IntKind.u8.wrap X = b := by rw [wrap_u8, hbt, hb]
    have HC := im_put16 hw b (by omega) (by omega)
    have HO : Hid (Kw B wb W wr ∧ l ++ eig N (k + 1) = (l ++ eig N k) ++ [b] ∧ X / 256 = n / 256 ^ (k + 1)) := (⟨hok, by rw [hb]; show l ++ (eig N k ++ [_]) = _; rw [List.append_assoc], by rw [hX]; exact shr_step n k⟩ : _ ∧ _)
    have hsh : X >>> (8 : Nat) = X / 256 := by rw [Int.shiftRight_eq_div_pow]; rfl
    clear hw hok HX hbt hb HB hX
    go_wp2_with fail
    refine HC.mono ?_
    rintro e w2 ⟨rfl, y1, y2⟩
    obtain ⟨o1, o2, o3⟩ := (show _ ∧ _ ∧ _ from HO)
    have HN : Hid (WS6 B wb (l ++ eig N (k + 1)) w2 ∧ Kw B wb W w2) := (⟨by rw [o2]; exact y1, o1.trans y2⟩ : _ ∧ _)
    have HN3 : Hid (X / 256 = n / 256 ^ (k + 1)) := o3
    clear HC y1 y2 o1 o2 o3 HO
    go_wp2_with fail
    go_roundw
    case rel => exact ⟨k + 1, by go_num, by omega, by rw [show X / 256 = _ from HN3], HN⟩
    case measure => simp [intOf]; omega
end Go.Proofs.Ytiojjejphdhpeaa.Fo
