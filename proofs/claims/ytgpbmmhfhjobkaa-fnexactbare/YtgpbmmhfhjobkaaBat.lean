import Derived.Test.YtgpbmmhfhjobkaaBas
namespace Go.Proofs.Ytgpbmmhfhjobkaa
open Go.ChangeShapes Go.WideShapes Go.ChangeAt Go.RowKit
set_option linter.unusedVariables false
set_option maxRecDepth 100000 in
set_option maxHeartbeats 8000000 in
theorem spec_bare {va : Value} {n : Nat} {F : Nat → Gv} (w : World) (ha : RowF w va n F) (hn : n + smr F n ≤ 1048576) :
    Calls Try.prog 5 #[.agg #[va]] w fun e w' => ∃ v g t, e = .returned (.agg #[v]) ∧ OwnF w' v g n (fun i => bar (F i)) t w.heap.size w'.heap.size ∧ Below w.heap.size w w' := by
  obtain ⟨pa, ca, rfl, ha2⟩ := ha
  have hnI : (n : Int) ≤ 1048576 := by omega
  have HA : Hid ((0 < n → ∃ a : Addr, pa = some a ∧ n ≤ ca ∧ ∀ i, i < n → FormC w (a.add (i * 9)) (F i)) ∧ n + smr F n ≤ 1048576) := (⟨ha2, hn⟩ : _ ∧ _)
  have H0 : Hid (Bv w (.slice none 0 0) (fun i => bar (F i)) 0 (((w.alloc (.cells #[.slice pa n ca] 28)).alloc (.cells #[.slice none 0 0] 28)).alloc (.cells #[.slice none 0 0] 28))) := Bv.start w _ _
  clear ha2 hn
  go_enter Try.func5, Try.ntmps5
  go_wp2_with fail
  go_loopw [10] (fun s9 wr => ∃ (i : Nat) (vo : Value), s9 = .int .i64 (i : Int) ∧ i ≤ n ∧ Hid (Bv w vo (fun i => bar (F i)) i wr)) (fun s9 _ => n - (intOf s9).toNat)
  case atStart => exact ⟨0, _, rfl, Nat.zero_le _, H0⟩
  case round =>
    clear H0
    obtain ⟨i, vo, rfl, hin, HI⟩ := hrel
    have hI := (show Bv w vo (fun i => bar (F i)) i wr from HI)
    have hA := (show (0 < n → ∃ a : Addr, pa = some a ∧ n ≤ ca ∧ ∀ i, i < n → FormC w (a.add (i * 9)) (F i)) ∧ n + smr F n ≤ 1048576 from HA)
    rcases Nat.lt_or_ge i n with hi | hi
    · have hiI : (i : Int) < (n : Int) := by omega
      obtain ⟨a, rfl, hca, hra⟩ := hA.1 (by omega)
      obtain ⟨un, uk, hc, hrn, hrk⟩ := (hra i hi).below hI.bel
      obtain ⟨d0, d1, d2, d3, d4, d5, d6, d7, d8⟩ := hc
      have hsu := smr_mono F (show i + 1 ≤ n from hi)
      have hss : smr F (i + 1) = smr F i + (F i).p + (F i).q := rfl
      obtain ⟨i0, hi0, hz0, hz1, hz2⟩ := info_parts info38
      have HI0 : Hid (Try.prog.info? 38 = some i0) := hi0
      have hsz := hI.size
      obtain ⟨pn, cn, rfl, hrn2⟩ := hrn
      obtain ⟨pk, ck, rfl, hrk2⟩ := hrk
      have HCP : Hid (∀ o : Obj, Calls Try.prog 12 #[fmv (F i).a (.slice pn (F i).p cn) (.slice pk (F i).q ck)] (wr.alloc o) fun e w' => ∃ vn vk gn gk, e = .returned (fmv (F i).a vn vk) ∧ OwnR w' vn gn (F i).p (fun j => .string ((F i).A j)) ∧ OwnR w' vk gk (F i).q (fun j => .int .i64 ((F i).K j)) ∧ (0 < (F i).p → (wr.alloc o).heap.size ≤ gn ∧ gn < w'.heap.size) ∧ (0 < (F i).q → (wr.alloc o).heap.size ≤ gk ∧ gk < w'.heap.size) ∧ (0 < (F i).p → 0 < (F i).q → gn ≠ gk) ∧ Below (wr.alloc o).heap.size (wr.alloc o) w') := (fun o => copy_form (wr.alloc o) ((show RowV wr _ _ _ from ⟨pn, cn, rfl, hrn2⟩).below (bel1 _ _)) ((show RowV wr _ _ _ from ⟨pk, ck, rfl, hrk2⟩).below (bel1 _ _)) (by omega) (by omega) : ∀ o : Obj, _)
      obtain ⟨L, t, hacc⟩ := hI.acc
      have HADD : Hid (∀ (w5 : World) (ob : Obj) (pn2 : Option Addr) (cn2 gn : Nat) (pk2 : Option Addr) (ck2 gk : Nat), Below wr.heap.size wr w5 → OwnR w5 (.slice pn2 (F i).p cn2) gn (F i).p (fun j => .string ((F i).A j)) → (0 < (F i).p → wr.heap.size ≤ gn ∧ gn < w5.heap.size) → OwnR w5 (.slice pk2 (F i).q ck2) gk (F i).q (fun j => .int .i64 ((F i).K j)) → (0 < (F i).q → wr.heap.size ≤ gk ∧ gk < w5.heap.size) → (0 < (F i).p → 0 < (F i).q → gn ≠ gk) →
          ∀ (o : Obj) (g cap : Nat) (w7 : World), w7.ownsRow (w.heap.size + 3) 38 9 (.slice (some ⟨g, 0, none⟩) (i + 1) cap) (i + 1) (L.flatMap c9 ++ [.int .i64 (F i).a.k, .int .i64 0, .int .i64 0, .int .i64 0, .int .i64 (F i).a.o, .int .i64 (F i).a.m, .string (F i).a.x, .slice pn2 (F i).p cn2, .slice pk2 (F i).q ck2]) → ((w5.alloc ob).alloc o).grownBy w7 vo.ownBlock → (vo.ownBlock = some g ∨ g = w5.heap.size + 1 + 1) →
          w7.cell? ⟨w.heap.size + 1 + 1, 0, none⟩ = some vo ∧ w7.frozen? ⟨w.heap.size + 1 + 1, 0, none⟩ = false ∧ Bv w (.slice (some ⟨g, 0, none⟩) (i + 1) cap) (fun i => bar (F i)) (i + 1) (w7.setCell ⟨w.heap.size + 1 + 1, 0, none⟩ (.slice (some ⟨g, 0, none⟩) (i + 1) cap))) := (fun w5 ob pn2 cn2 gn pk2 ck2 gk b5 on hgn ok hgk hne o g cap w7 hown hgr hat => by
        have b6 : Below wr.heap.size wr (w5.alloc ob) := b5.alloc b5.size _
        obtain ⟨q0, q1, q2, q3⟩ := Bv.add (F := fun i => bar (F i)) hI hacc b6 (vn := .slice pn2 (F i).p cn2) (vk := .slice pk2 (F i).q ck2) (on.block (fun hp => Below.heap_alloc _ _ _ (hgn hp).2)) (ok.block (fun hp => Below.heap_alloc _ _ _ (hgk hp).2)) (fun hp => by have := hgn hp; show wr.heap.size ≤ gn ∧ gn < (w5.alloc ob).heap.size; simp; omega) (fun hp => by have := hgk hp; show wr.heap.size ≤ gk ∧ gk < (w5.alloc ob).heap.size; simp; omega) hne hown hgr (by simpa using hat)
        exact ⟨q1, q2, q3⟩ : ∀ (w5 : World) (ob : Obj) (pn2 : Option Addr) (cn2 gn : Nat) (pk2 : Option Addr) (ck2 gk : Nat), _)
      have HOWN : Hid (∀ W', Below wr.heap.size wr W' → W'.ownsRow (w.heap.size + 3) 38 9 vo i (L.flatMap c9) ∧ W'.cell? ⟨w.heap.size + 1 + 1, 0, none⟩ = some vo) := (fun W' hb => ⟨(hacc.below hb).row, by have := (hI.below hb).out; simp [World.cell?, this]⟩ : ∀ W', _)
      have h1c : ∀ pn2 cn2 pk2 ck2, ∀ u ∈ [(.int .i64 (F i).a.k : Value), .int .i64 0, .int .i64 0, .int .i64 0, .int .i64 (F i).a.o, .int .i64 (F i).a.m, .string (F i).a.x, .slice pn2 (F i).p cn2, .slice pk2 (F i).q ck2], u.oneCell' = true := by
        intro pn2 cn2 pk2 ck2 u hu; simp at hu; rcases hu with rfl | rfl | rfl | rfl | rfl | rfl | rfl | rfl | rfl <;> rfl
      have H1C : Hid (_) := h1c
      clear hI HI hA HA hra hsu hss hi0 hrn2 hrk2 hacc h1c
      go_wp2_with fail
      refine ((show ∀ o : Obj, _ from HCP) _).mono ?_
      rintro e w5 ⟨vn, vk, gn, gk, rfl, on, ok, hgn, hgk, hne, hb5⟩
      have b5 : Below wr.heap.size wr w5 := (bel1 wr _).trans (hb5.mono (by simp))
      have b5a : ∀ ob : Obj, Below wr.heap.size wr (w5.alloc ob) := fun ob => b5.alloc b5.size _
      have oA : ∀ ob : Obj, (w5.alloc ob).cell? ⟨w.heap.size + 1 + 1, 0, none⟩ = some vo := fun ob => ((show ∀ W', Below wr.heap.size wr W' → _ from HOWN) _ (b5a ob)).2
      have HOA : Hid (∀ (ob o : Obj), ((w5.alloc ob).alloc o).ownsRow (w.heap.size + 3) 38 9 vo i (L.flatMap c9)) := (fun ob o => ((show ∀ W', Below wr.heap.size wr W' → _ from HOWN) _ ((b5a ob).alloc (b5a ob).size o)).1 : ∀ (ob o : Obj), _)
      obtain ⟨pn2, cn2, rfl, _⟩ := on.sl
      obtain ⟨pk2, ck2, rfl, _⟩ := ok.sl
      have HFN : Hid (∀ (ob o : Obj) (g cap : Nat) (w7 : World), w7.ownsRow (w.heap.size + 3) 38 9 (.slice (some ⟨g, 0, none⟩) (i + 1) cap) (i + 1) (L.flatMap c9 ++ [.int .i64 (F i).a.k, .int .i64 0, .int .i64 0, .int .i64 0, .int .i64 (F i).a.o, .int .i64 (F i).a.m, .string (F i).a.x, .slice pn2 (F i).p cn2, .slice pk2 (F i).q ck2]) → ((w5.alloc ob).alloc o).grownBy w7 vo.ownBlock → (vo.ownBlock = some g ∨ g = w5.heap.size + 1 + 1) →
          w7.cell? ⟨w.heap.size + 1 + 1, 0, none⟩ = some vo ∧ w7.frozen? ⟨w.heap.size + 1 + 1, 0, none⟩ = false ∧ Bv w (.slice (some ⟨g, 0, none⟩) (i + 1) cap) (fun i => bar (F i)) (i + 1) (w7.setCell ⟨w.heap.size + 1 + 1, 0, none⟩ (.slice (some ⟨g, 0, none⟩) (i + 1) cap))) := (fun ob o g cap w7 => (show ∀ (w5 : World) (ob : Obj) (pn2 : Option Addr) (cn2 gn : Nat) (pk2 : Option Addr) (ck2 gk : Nat), _ from HADD) w5 ob pn2 cn2 gn pk2 ck2 gk b5 on (fun hp => by have := hgn hp; simp at this; omega) ok (fun hp => by have := hgk hp; simp at this; omega) hne o g cap w7 : ∀ (ob o : Obj) (g cap : Nat) (w7 : World), _)
      have hbz := b5.size
      have hbs : w.heap.size + 3 ≤ w5.heap.size + 1 + 1 := by omega
      have hlt : w.heap.size + 1 + 1 < w5.heap.size := by omega
      have hqc := qr_cells (w5.alloc (.cells #[.int .i64 (F i).a.k, .int .i64 0, .int .i64 0, .int .i64 0, .int .i64 (F i).a.o, .int .i64 (F i).a.m, .string (F i).a.x, .slice pn2 (F i).p cn2, .slice pk2 (F i).q ck2] 38)) #[.int .i64 (F i).a.k, .int .i64 0, .int .i64 0, .int .i64 0, .int .i64 (F i).a.o, .int .i64 (F i).a.m, .string (F i).a.x, .slice pn2 (F i).p cn2, .slice pk2 (F i).q ck2] 38 _ rfl
      rw [show (w5.alloc (.cells #[.int .i64 (F i).a.k, .int .i64 0, .int .i64 0, .int .i64 0, .int .i64 (F i).a.o, .int .i64 (F i).a.m, .string (F i).a.x, .slice pn2 (F i).p cn2, .slice pk2 (F i).q ck2] 38)).heap.size = w5.heap.size + 1 from by simp] at hqc
      clear HADD HOWN HCP on ok hgn hgk hne hb5 b5 b5a d0 d1 d2 d3 d4 d5 d6 d7 d8 hbz hin
      unfold fmv
      go_wp2_with (at_builtin; refine wpList_append_lies _ rfl (.tmp 20) (.tmp 22) 26 rfl (w.heap.size + 3) 38 i0 z9 9 112 Try.underlying26 HI0 hz0 hz1 hz2 rfl (by decide) vo i (L.flatMap c9) rfl (HOA _ _) ⟨w5.heap.size + 1, 0, none⟩ 1 1 [.int .i64 (F i).a.k, .int .i64 0, .int .i64 0, .int .i64 0, .int .i64 (F i).a.o, .int .i64 (F i).a.m, .string (F i).a.x, .slice pn2 (F i).p cn2, .slice pk2 (F i).q ck2] rfl rfl hqc (H1C _ _ _ _) (by decide) (by unfold maxLen; omega) (by omega) (by simpa using hbs) (w5.heap.size + 1 + 1) (by simp) ?_; intro g cap w7 hown hgrow hat hlt7; obtain ⟨o7, f7, hfin⟩ := (show ∀ (ob o : Obj) (g cap : Nat) (w7 : World), _ from HFN) _ _ g cap w7 hown hgrow hat; have HFIN : Hid (Bv w (.slice (some ⟨g, 0, none⟩) (i + 1) cap) (fun i => bar (F i)) (i + 1) (w7.setCell ⟨w.heap.size + 1 + 1, 0, none⟩ (.slice (some ⟨g, 0, none⟩) (i + 1) cap))) := hfin; clear hfin hown hgrow hat hlt7 HFN HOA oA hqc)
      go_roundw
      case rel => exact ⟨i + 1, _, by go_num, by omega, HFIN⟩
      case measure => simp [intOf]; omega
    · obtain rfl : i = n := by omega
      have hshape : ∃ (ad : Option Addr) (nn cap : Nat), vo = .slice ad nn cap := by
        obtain ⟨L, t, ha'⟩ := hI.acc
        rcases ha'.row.2 with ⟨h1, _⟩ | ⟨g2, cap, cur, e3, _⟩
        · exact ⟨none, 0, 0, h1⟩
        · exact ⟨_, _, _, e3⟩
      obtain ⟨ad, nn, cap, rfl⟩ := hshape
      have oA : wr.cell? ⟨w.heap.size + 1 + 1, 0, none⟩ = some (.slice ad nn cap) := by have := hI.out; simp [World.cell?, this]
      have rA : wr.cell? ⟨w.heap.size + 1, 0, none⟩ = some (.slice none 0 0) := by have := hI.res; simp [World.cell?, this]
      have fA : wr.frozen? ⟨w.heap.size + 1, 0, none⟩ = false := by have := hI.res; simp [World.frozen?, this]
      have e0 : (wr.setCell ⟨w.heap.size + 1, 0, none⟩ (.slice ad nn cap)).cell? ⟨w.heap.size + 1, 0, none⟩ = some (.slice ad nn cap) := set_eq _ _ _ _ _ rA
      have HF : Hid (∃ v g t, Ending.returned (.agg #[.slice ad nn cap]) = .returned (.agg #[v]) ∧ OwnF (wr.setCell ⟨w.heap.size + 1, 0, none⟩ (.slice ad nn cap)) v g i (fun i => bar (F i)) t w.heap.size (wr.setCell ⟨w.heap.size + 1, 0, none⟩ (.slice ad nn cap)).heap.size ∧ Below w.heap.size w (wr.setCell ⟨w.heap.size + 1, 0, none⟩ (.slice ad nn cap))) := by
        show ∃ v g t, _
        obtain ⟨L, t, ha'⟩ := hI.acc
        obtain ⟨g, hg⟩ := (ha'.keep (W' := wr.setCell ⟨w.heap.size + 1, 0, none⟩ (.slice ad nn cap)) (by simp) (fun b hb _ => Below.heap_setCell wr _ _ _ (by show b ≠ w.heap.size + 1; omega))).own (lo := w.heap.size) (hi := (wr.setCell ⟨w.heap.size + 1, 0, none⟩ (.slice ad nn cap)).heap.size) (by omega) (Nat.le_refl _)
        exact ⟨_, g, t, rfl, hg, hI.bel.setCell (by show w.heap.size ≤ w.heap.size + 1; omega) _⟩
      have E0 : Hid _ := e0
      clear hI HI hA HA e0
      go_wp2_with fail
      have e0 := (show (wr.setCell ⟨w.heap.size + 1, 0, none⟩ (.slice ad nn cap)).cell? ⟨w.heap.size + 1, 0, none⟩ = some (.slice ad nn cap) from E0)
      refine bodyPost_ret (by simp [results, Try.results5, go_sem, e0]; rfl) rfl ?_
      exact HF
end Go.Proofs.Ytgpbmmhfhjobkaa
