import Derived.Test.YtfpidccjcemcjaaUha
import Derived.Test.YtfpidccjcemcjaaUaf
import Derived.Deep.Cut
import Derived.Test.YtfpidccjcemcjaaUcd
import Derived.Test.YtfpidccjcemcjaaUbd
import Derived.Deep.CutRange
namespace Go.Proofs.Ytfpidccjcemcjaa
open Go.ChangeShapes Go.WideShapes Go.ChangeAt Go.RowKit
set_option linter.unusedVariables false
set_option maxRecDepth 100000
theorem Rw.two {w : World} {c : Array Value} {t t2 : TypeId} {w2 : World} (h : w2 = (w.alloc (.cells c t)).alloc (.cells #[.int .i64 0, .int .i64 0, .float .f64 0, .string ⟨#[]⟩, .int .i64 0] t2)) : Rw w2 (w.heap.size + 1) := by
  have q := Rw.new (w.alloc (.cells c t)) t2
  rw [World.size_alloc] at q
  rw [h]; exact q
set_option maxHeartbeats 8000000 in
theorem im_get0 {w : World} {B M n : Nat} {F : Nat → Pv} {v : Value} {T : Int} (u : Vv) (hu : kok u) (W : World) (hL : Lg w B M (lsp F n) v T W) (ht : tok n F T) : Calls Try.prog 46 #[.pointer (some ⟨B, 0, none⟩), vv u] W fun e w' => ∃ y, e = .returned (vv y) ∧ Gt n F u y ∧ Kq W w' := by
  have HF : Hid (∀ W', Kq W W' → Calls Try.prog 69 #[.pointer (some ⟨B, 0, none⟩), vv u] W' fun e w' => ∃ (r : Nat) (ok : Bool), e = .returned (.tuple #[.int .i64 (r : Int), .bool ok]) ∧ Fd n F u r ok ∧ Kq W' w') := (fun W' q => im_find u hu W' (hL.on q) ht : ∀ W', Kq W W' → _)
  obtain ⟨gg, hO, hg⟩ := own_pairs hL.row
  obtain ⟨ad, ca, rfl, hsl⟩ := hO.sl
  have hnI : (n : Int) ≤ 500 := by have := ht.1; omega
  have HX : Hid ((0 < n → ad = some ⟨gg, 0, none⟩ ∧ n ≤ ca) ∧ (∀ i, i < n → Cp W ⟨gg, i * 11, none⟩ (F i)) ∧ W.cell? ⟨B, 0, none⟩ = some (.slice ad n ca)) := (⟨hsl, hO.ce, cell_of hL.ob rfl⟩ : _ ∧ _ ∧ _)
  have HGT : Hid (∀ y, ((y = vz ∧ ∀ j, j < n → ¬ mk (F j).a = mk u) ∨ ∃ j, j < n ∧ mk (F j).a = mk u ∧ y = (F j).b) → Gt n F u y) := (fun y h => h : ∀ y, _)
  have HFD : Hid (∀ r ok, Fd n F u r ok → ((ok = false ∧ ∀ j, j < n → ¬ mk (F j).a = mk u) ∨ (ok = true ∧ r < n ∧ mk (F r).a = mk u))) := (fun r ok h => h : ∀ r ok, _)
  clear hL hO hg hsl ht hu
  generalize Fd n F u = Fu at HF HFD
  generalize Gt n F u = Gu at HGT ⊢
  generalize mk u = mu at HGT HFD
  obtain ⟨k, m, g, x, r⟩ := u
  unfold vv at HF ⊢
  dsimp only at HF ⊢
  obtain ⟨w2, hw2⟩ : ∃ w2, w2 = (W.alloc (.cells #[.int .i64 k, .int .i64 m, .float .f64 g, .string x, .int .i64 r] 26)).alloc (.cells #[.int .i64 0, .int .i64 0, .float .f64 0, .string ⟨#[]⟩, .int .i64 0] 26) := ⟨_, rfl⟩
  obtain ⟨x0, x1, z2, k2⟩ := two_new W _ _ _ _ w2 hw2
  have rf2 := Rw.two hw2
  have HX2 : Hid (Kq W w2 ∧ Rw w2 (W.heap.size + 1)) := (⟨k2, rf2⟩ : _ ∧ _)
  have HF2 : Hid (Calls Try.prog 69 #[.pointer (some ⟨B, 0, none⟩), .agg #[.int .i64 k, .int .i64 m, .float .f64 g, .string x, .int .i64 r]] w2 fun e w' => ∃ (r : Nat) (ok : Bool), e = .returned (.tuple #[.int .i64 (r : Int), .bool ok]) ∧ Fu r ok ∧ Kq w2 w') := (show ∀ W', Kq W W' → _ from HF) w2 k2
  clear x0 x1 z2 k2 rf2 HF
  have hst : ∀ (a : Addr) (n : Nat) (m : Mode) (w : World), (store a (.float .f64 n) m).run Try.prog w = stored Try.prog w a (.float .f64 n) m := fun a n m w => run_store _ _ _ _ _ rfl
  go_enter Try.func46, Try.ntmps46
  go_wp2_with fail
  rw [← hw2]
  clear hw2
  refine (show Calls Try.prog 69 #[.pointer (some ⟨B, 0, none⟩), .agg #[.int .i64 k, .int .i64 m, .float .f64 g, .string x, .int .i64 r]] w2 _ from HF2).mono ?_
  rintro e w3 ⟨j, ok, rfl, hfd, k3⟩
  have hX2 := (show Kq W w2 ∧ Rw w2 (W.heap.size + 1) from HX2)
  have GK : Hid (Kq W w3) := hX2.1.trans k3
  have RF : Hid (Rw w3 (W.heap.size + 1)) := hX2.2.kq k3
  obtain ⟨u0, u1, u2, u3, u4, uz⟩ := (show Rw w3 (W.heap.size + 1) from RF)
  have hX := (show (0 < n → ad = some ⟨gg, 0, none⟩ ∧ n ≤ ca) ∧ (∀ i, i < n → Cp W ⟨gg, i * 11, none⟩ (F i)) ∧ W.cell? ⟨B, 0, none⟩ = some (.slice ad n ca) from HX)
  rcases (show ∀ r ok, Fu r ok → _ from HFD) j ok hfd with ⟨rfl, hno⟩ | ⟨rfl, hj, hm⟩
  · have HE : Hid (Gu ⟨0, 0, 0, ⟨#[]⟩, 0⟩) := (show ∀ y, _ → Gu y from HGT) _ (.inl ⟨rfl, hno⟩)
    clear hX2 HX2 hX HX HGT HFD HF2 hfd hno k3
    go_wp2_with fail
    obtain ⟨e0, e1, e2, e3, e4⟩ := rw_set (show Rw w3 (W.heap.size + 1) from RF) 0 0 0 ⟨#[]⟩ 0
    have GG : Hid (Kq W (s5 w3 (W.heap.size + 1) 0 0 0 ⟨#[]⟩ 0)) := s5_kq GK (by omega) 0 0 0 ⟨#[]⟩ 0
    obtain ⟨WF, hWF⟩ : ∃ WF, WF = s5 w3 (W.heap.size + 1) 0 0 0 ⟨#[]⟩ 0 := ⟨_, rfl⟩
    rw [← hWF] at e0 e1 e2 e3 e4 GG
    have hWF' := hWF
    unfold s5 at hWF'
    rw [← hWF']
    clear hWF hWF'
    dsimp only at e0 e1 e2 e3 e4
    refine bodyPost_ret (by simp [results, Try.results46, go_sem, e0, e1, e2, e3, e4]; rfl) rfl ?_
    exact ⟨⟨0, 0, 0, ⟨#[]⟩, 0⟩, rfl, HE, GG⟩
  · have HE : Hid (Gu (F j).b) := (show ∀ y, _ → Gu y from HGT) _ (.inr ⟨j, hj, hm, rfl⟩)
    obtain ⟨rfl, hca⟩ := hX.1 (by omega)
    have b0 := (show Kq W w3 from GK).cell hX.2.2
    obtain ⟨d0, d1, d2, d3, d4, d5, d6, d7, d8, d9, d10⟩ := (hX.2.1 j hj).kq (show Kq W w3 from GK)
    have hjI : (j : Int) < (n : Int) := by omega
    clear hX2 HX2 hX HX HGT HFD HF2 hfd hm k3
    generalize F j = p at HE d0 d1 d2 d3 d4 d5 d6 d7 d8 d9 d10
    obtain ⟨pa, ⟨yk, ym, yg, yx, yr⟩, pt⟩ := p
    dsimp only at HE d0 d1 d2 d3 d4 d5 d6 d7 d8 d9 d10
    go_wp2_with fail
    clear d0 d1 d2 d3 d4 d5 d6 d7 d8 d9 d10 u0 u1 u2 u3 u4 uz b0
    obtain ⟨e0, e1, e2, e3, e4⟩ := rw_set (show Rw w3 (W.heap.size + 1) from RF) yk ym yg yx yr
    have GG : Hid (Kq W (s5 w3 (W.heap.size + 1) yk ym yg yx yr)) := s5_kq GK (by omega) yk ym yg yx yr
    obtain ⟨WF, hWF⟩ : ∃ WF, WF = s5 w3 (W.heap.size + 1) yk ym yg yx yr := ⟨_, rfl⟩
    rw [← hWF] at e0 e1 e2 e3 e4 GG
    have hWF' := hWF
    unfold s5 at hWF'
    rw [← hWF']
    clear hWF hWF'
    dsimp only at e0 e1 e2 e3 e4
    refine bodyPost_ret (by simp [results, Try.results46, go_sem, e0, e1, e2, e3, e4]; rfl) rfl ?_
    exact ⟨⟨yk, ym, yg, yx, yr⟩, rfl, HE, GG⟩
theorem Rw.three {w : World} {c d : Array Value} {t t2 t3 : TypeId} {w2 : World} (h : w2 = ((w.alloc (.cells c t)).alloc (.cells d t2)).alloc (.cells #[.int .i64 0, .int .i64 0, .float .f64 0, .string ⟨#[]⟩, .int .i64 0] t3)) : Rw w2 (w.heap.size + 2) := by
  have q := Rw.new ((w.alloc (.cells c t)).alloc (.cells d t2)) t3
  rw [World.size_alloc, World.size_alloc] at q
  rw [h]; exact q
set_option maxHeartbeats 8000000 in
theorem im_get {v : Value} {g0 n : Nat} {F : Nat → Pv} (T : Int) (ky : Vv) (c : Int) (u : Vv) (hy : Ky ky c u) (kb : Vb ky) (hxk : (ky.x.size : Int) ≤ 1048576) (w : World) (ha : OwnP w v g0 n F) (tb : Tb n F) : Calls Try.prog 20 #[.agg #[v, .int .i64 T], vv ky] w fun e w' => ∃ y, e = .returned (vv y) ∧ GtA n F T c u y ∧ Kq w w' := by
  obtain ⟨pa, ca, rfl, ha2⟩ := ha.sl
  have HKEY := fun w => im_key hy hxk kb.g w
  have HGO : Hid (c = 0 → tok n F T → ∀ B M v' W0 W, Lg W0 B M (lsp F n) v' T W → Calls Try.prog 46 #[.pointer (some ⟨B, 0, none⟩), vv u] W fun e w' => ∃ y, e = .returned (vv y) ∧ Gt n F u y ∧ Kq W w') := (fun hc ht B M v' W0 W hl => im_get0 u (ky_key (by rw [← hc]; exact hy)) W hl ht : c = 0 → tok n F T → _)
  have HGA : Hid ((∀ y, (¬ (tok n F T ∧ c = 0) ∧ y = vz) → GtA n F T c u y) ∧ (∀ y, tok n F T → c = 0 → Gt n F u y → GtA n F T c u y)) := (⟨fun y h => .inl h, fun y h1 h2 h3 => .inr ⟨h1, h2, h3⟩⟩ : _ ∧ _)
  generalize GtA n F T c u = Ga at HGA ⊢
  generalize Gt n F u = Gu at HGA HGO
  obtain ⟨uk, um, ug, ux, ur⟩ := u
  obtain ⟨k, m, g, x, r⟩ := ky
  unfold vv at HKEY HGO ⊢
  unfold va at HKEY
  dsimp only at HKEY HGO ⊢
  obtain ⟨w3, hw3⟩ : ∃ w3, w3 = ((w.alloc (.cells #[.slice pa n ca, .int .i64 T] 40)).alloc (.cells #[.int .i64 k, .int .i64 m, .float .f64 g, .string x, .int .i64 r] 26)).alloc (.cells #[.int .i64 0, .int .i64 0, .float .f64 0, .string ⟨#[]⟩, .int .i64 0] 26) := ⟨_, rfl⟩
  obtain ⟨x0, x1, x2, z3, k3⟩ := three_new w _ _ _ _ _ _ w3 hw3
  have rf3 := Rw.three hw3
  have HLO : Hid (Calls Try.prog 43 #[.agg #[.slice pa n ca, .int .i64 T]] w3 fun e w' => LO w3 n F T e w') := im_ledger T w3 (ha.kq k3) tb
  have HX : Hid (Kq w w3 ∧ Rw w3 (w.heap.size + 2) ∧ w3.heap[w.heap.size + 1]? = some (.cells #[.int .i64 k, .int .i64 m, .float .f64 g, .string x, .int .i64 r] 26 (0, 0)) ∧ w3.heap.size = w.heap.size + 3) := (⟨k3, rf3, x1, z3⟩ : _ ∧ _ ∧ _ ∧ _)
  clear x0 x1 x2 z3 k3 rf3 ha2 ha tb hy kb hxk
  have hst : ∀ (a : Addr) (n : Nat) (m : Mode) (w : World), (store a (.float .f64 n) m).run Try.prog w = stored Try.prog w a (.float .f64 n) m := fun a n m w => run_store _ _ _ _ _ rfl
  go_enter Try.func20, Try.ntmps20
  go_wp2_with fail
  rw [← hw3]
  clear hw3
  refine (show Calls Try.prog 43 #[.agg #[.slice pa n ca, .int .i64 T]] w3 _ from HLO).mono ?_
  intro e w4 h4
  have hX := (show Kq w w3 ∧ Rw w3 (w.heap.size + 2) ∧ w3.heap[w.heap.size + 1]? = some (.cells #[.int .i64 k, .int .i64 m, .float .f64 g, .string x, .int .i64 r] 26 (0, 0)) ∧ w3.heap.size = w.heap.size + 3 from HX)
  have k34 : Kq w3 w4 := by
    rcases h4 with ⟨_, _, k4⟩ | ⟨_, B, M, v', _, l4⟩
    · exact k4
    · exact l4.kq
  have v0 := k34.cell (cell_of hX.2.2.1 (j := 0) rfl)
  have v1 := k34.cell (cell_of hX.2.2.1 (j := 1) rfl)
  have v2 := k34.cell (cell_of hX.2.2.1 (j := 2) rfl)
  have v3 := k34.cell (cell_of hX.2.2.1 (j := 3) rfl)
  have v4 := k34.cell (cell_of hX.2.2.1 (j := 4) rfl)
  obtain ⟨okb, pl, hpl, HCASE⟩ : ∃ (okb : Bool) (pl : Value), e = .returned (.tuple #[pl, .bool okb]) ∧ ((okb = false ∧ ¬ tok n F T ∧ pl = .pointer none) ∨ (okb = true ∧ tok n F T ∧ ∃ B M v', pl = .pointer (some ⟨B, 0, none⟩) ∧ Lg w3 B M (lsp F n) v' T w4)) := by
    rcases h4 with ⟨ht, he, k4⟩ | ⟨ht, B, M, v', he, l4⟩
    · exact ⟨false, _, he, .inl ⟨rfl, ht, rfl⟩⟩
    · exact ⟨true, _, he, .inr ⟨rfl, ht, B, M, v', rfl, l4⟩⟩
  subst hpl
  have HC : Hid ((okb = false ∧ ¬ tok n F T ∧ pl = .pointer none) ∨ (okb = true ∧ tok n F T ∧ ∃ B M v', pl = .pointer (some ⟨B, 0, none⟩) ∧ Lg w3 B M (lsp F n) v' T w4)) := HCASE
  have GK4 : Hid (Kq w w4 ∧ Kq w3 w4) := (⟨hX.1.trans k34, k34⟩ : _ ∧ _)
  clear h4 HLO hX k34 HCASE
  go_upto_region 2 with fail
  go_wp2_with fail
  refine (HKEY _).mono ?_
  rintro e w5 ⟨rfl, k5⟩
  clear v0 v1 v2 v3 v4
  go_upto_region 3 with fail
  have ga : Kq w5 (w5.alloc (.cells #[.int .i64 c, .int .i64 uk, .int .i64 um, .float .f64 ug, .string ux, .int .i64 ur] 28)) := kq_alloc _ _ _
  have hX := (show Kq w w3 ∧ Rw w3 (w.heap.size + 2) ∧ _ ∧ w3.heap.size = w.heap.size + 3 from HX)
  have hG4 := (show Kq w w4 ∧ Kq w3 w4 from GK4)
  have k46 : Kq w4 (w5.alloc (.cells #[.int .i64 c, .int .i64 uk, .int .i64 um, .float .f64 ug, .string ux, .int .i64 ur] 28)) := k5.trans ga
  have HA6 : Hid (Ac (w5.alloc (.cells #[.int .i64 c, .int .i64 uk, .int .i64 um, .float .f64 ug, .string ux, .int .i64 ur] 28)) w5.heap.size c ⟨uk, um, ug, ux, ur⟩) := Ac.new _ _ _ _ _ _ _ _
  have HRF : Hid (Rw (w5.alloc (.cells #[.int .i64 c, .int .i64 uk, .int .i64 um, .float .f64 ug, .string ux, .int .i64 ur] 28)) (w.heap.size + 2)) := (hX.2.1.kq hG4.2).kq k46
  have HGK : Hid (Kq w (w5.alloc (.cells #[.int .i64 c, .int .i64 uk, .int .i64 um, .float .f64 ug, .string ux, .int .i64 ur] 28))) := hG4.1.trans k46
  have HK46 : Hid (Kq w4 (w5.alloc (.cells #[.int .i64 c, .int .i64 uk, .int .i64 um, .float .f64 ug, .string ux, .int .i64 ur] 28))) := k46
  have hz2 : w.heap.size + 2 < w5.heap.size := by have h1 := hX.2.2.2; have h2 := hG4.2.size; have h3 := k5.size; omega
  clear ga hX hG4 k46 k5 HX GK4 HKEY
  generalize w5.alloc (.cells #[.int .i64 c, .int .i64 uk, .int .i64 um, .float .f64 ug, .string ux, .int .i64 ur] 28) = w6 at HA6 HRF HGK HK46 ⊢
  generalize w5.heap.size = VB at HA6 hz2 ⊢
  obtain ⟨a0, a1, a2, a3, a4, a5⟩ := (show Ac w6 VB c ⟨uk, um, ug, ux, ur⟩ from HA6)
  dsimp only at a0 a1 a2 a3 a4 a5
  have GK : Hid (Kq w w6) := HGK
  have RF : Hid (Rw w6 (w.heap.size + 2)) := HRF
  obtain ⟨u0, u1, u2, u3, u4, uz⟩ := (show Rw w6 (w.heap.size + 2) from RF)
  rcases (show (okb = false ∧ ¬ tok n F T ∧ pl = .pointer none) ∨ (okb = true ∧ tok n F T ∧ ∃ B M v', pl = .pointer (some ⟨B, 0, none⟩) ∧ Lg w3 B M (lsp F n) v' T w4) from HC) with ⟨rfl, ht, rfl⟩ | ⟨rfl, ht, B, M, v', rfl, l4⟩
  · have HE : Hid (Ga ⟨0, 0, 0, ⟨#[]⟩, 0⟩) := (show (∀ y, _ → Ga y) ∧ _ from HGA).1 _ ⟨fun h => ht h.1, rfl⟩
    clear HC HGA HGO ht HA6 HRF HGK HK46
    go_wp2_with fail
    obtain ⟨e0, e1, e2, e3, e4⟩ := rw_set (show Rw w6 (w.heap.size + 2) from RF) 0 0 0 ⟨#[]⟩ 0
    have GG : Hid (Kq w (s5 w6 (w.heap.size + 2) 0 0 0 ⟨#[]⟩ 0)) := s5_kq GK (by omega) 0 0 0 ⟨#[]⟩ 0
    obtain ⟨WF, hWF⟩ : ∃ WF, WF = s5 w6 (w.heap.size + 2) 0 0 0 ⟨#[]⟩ 0 := ⟨_, rfl⟩
    rw [← hWF] at e0 e1 e2 e3 e4 GG
    have hWF' := hWF
    unfold s5 at hWF'
    rw [← hWF']
    clear hWF hWF'
    dsimp only at e0 e1 e2 e3 e4
    refine bodyPost_ret (by simp [results, Try.results20, go_sem, e0, e1, e2, e3, e4]; rfl) rfl ?_
    exact ⟨⟨0, 0, 0, ⟨#[]⟩, 0⟩, rfl, HE, GG⟩
  · by_cases hc : c = 0
    case neg =>
      have HE : Hid (Ga ⟨0, 0, 0, ⟨#[]⟩, 0⟩) := (show (∀ y, _ → Ga y) ∧ _ from HGA).1 _ ⟨fun h => hc h.2, rfl⟩
      have hcb : (c != 0) = true := by simpa using hc
      clear HC HGA HGO ht HA6 HRF HGK HK46 l4 hc
      go_wp2_with fail
      obtain ⟨e0, e1, e2, e3, e4⟩ := rw_set (show Rw w6 (w.heap.size + 2) from RF) 0 0 0 ⟨#[]⟩ 0
      have GG : Hid (Kq w (s5 w6 (w.heap.size + 2) 0 0 0 ⟨#[]⟩ 0)) := s5_kq GK (by omega) 0 0 0 ⟨#[]⟩ 0
      obtain ⟨WF, hWF⟩ : ∃ WF, WF = s5 w6 (w.heap.size + 2) 0 0 0 ⟨#[]⟩ 0 := ⟨_, rfl⟩
      rw [← hWF] at e0 e1 e2 e3 e4 GG
      have hWF' := hWF
      unfold s5 at hWF'
      rw [← hWF']
      clear hWF hWF'
      dsimp only at e0 e1 e2 e3 e4
      refine bodyPost_ret (by simp [results, Try.results20, go_sem, e0, e1, e2, e3, e4]; rfl) rfl ?_
      exact ⟨⟨0, 0, 0, ⟨#[]⟩, 0⟩, rfl, HE, GG⟩
    have HG : Hid (Calls Try.prog 46 #[.pointer (some ⟨B, 0, none⟩), .agg #[.int .i64 uk, .int .i64 um, .float .f64 ug, .string ux, .int .i64 ur]] w6 fun e w' => ∃ y, e = .returned (vv y) ∧ Gu y ∧ Kq w6 w') := (show c = 0 → tok n F T → _ from HGO) hc ht B M v' w3 w6 (l4.on HK46)
    have HE0 : Hid (∀ y, Gu y → Ga y) := (fun y h => (show _ ∧ (∀ y, tok n F T → c = 0 → Gu y → Ga y) from HGA).2 y ht hc h : ∀ y, Gu y → Ga y)
    subst hc
    clear HC HGA HGO ht HA6 HRF HGK HK46 l4 u0 u1 u2 u3 u4 uz
    go_wp2_with fail
    refine (show Calls Try.prog 46 #[.pointer (some ⟨B, 0, none⟩), .agg #[.int .i64 uk, .int .i64 um, .float .f64 ug, .string ux, .int .i64 ur]] w6 _ from HG).mono ?_
    rintro e w7 ⟨⟨yk, ym, yg, yx, yr⟩, rfl, hgy, k7⟩
    have HE : Hid (Ga ⟨yk, ym, yg, yx, yr⟩) := (show ∀ y, Gu y → Ga y from HE0) _ hgy
    have GK7 : Hid (Kq w w7) := Kq.trans GK k7
    have RF7 : Hid (Rw w7 (w.heap.size + 2)) := Rw.kq RF k7
    clear HG HE0 hgy k7 GK RF a0 a1 a2 a3 a4 a5
    have GK : Hid (Kq w w7) := GK7
    have RF : Hid (Rw w7 (w.heap.size + 2)) := RF7
    obtain ⟨u0, u1, u2, u3, u4, uz⟩ := (show Rw w7 (w.heap.size + 2) from RF)
    unfold vv
    dsimp only
    go_wp2_with fail
    obtain ⟨e0, e1, e2, e3, e4⟩ := rw_set (show Rw w7 (w.heap.size + 2) from RF) yk ym yg yx yr
    have GG : Hid (Kq w (s5 w7 (w.heap.size + 2) yk ym yg yx yr)) := s5_kq GK (by omega) yk ym yg yx yr
    obtain ⟨WF, hWF⟩ : ∃ WF, WF = s5 w7 (w.heap.size + 2) yk ym yg yx yr := ⟨_, rfl⟩
    rw [← hWF] at e0 e1 e2 e3 e4 GG
    have hWF' := hWF
    unfold s5 at hWF'
    rw [← hWF']
    clear hWF hWF'
    dsimp only at e0 e1 e2 e3 e4
    refine bodyPost_ret (by simp [results, Try.results20, go_sem, e0, e1, e2, e3, e4]; rfl) rfl ?_
    exact ⟨⟨yk, ym, yg, yx, yr⟩, rfl, HE, GG⟩
end Go.Proofs.Ytfpidccjcemcjaa
namespace Go.Proofs.Ytfpidccjcemcjaa
open Go.ChangeShapes Go.WideShapes Go.ChangeAt Go.RowKit
set_option linter.unusedVariables false
set_option maxRecDepth 100000
theorem ky_size {v u : Vv} {c : Int} (h : Ky v c u) (hx : (v.x.size : Int) ≤ 1048576) : (u.x.size : Int) ≤ 1048576 := by
  cases h <;> first | exact hx | (show ((0 : Nat) : Int) ≤ 1048576; omega)
/-- what a key that may be looked for is -/
structure Uk (u : Vv) : Prop where
  key : kok u
  vb : Vb u
  sz : (u.x.size : Int) ≤ 1048576
set_option maxHeartbeats 8000000 in
theorem sp_get0 {v : Value} {g0 n : Nat} {F : Nat → Pv} (T : Int) (ky : Vv) (c : Int) (u : Vv) (hy : Ky ky c u) (kb : Vb ky) (hxk : (ky.x.size : Int) ≤ 1048576) (huk : c = 0 → Uk u) (w : World) (ha : OwnP w v g0 n F) (tb : Tb n F) (hks : ∀ i, i < n → kok (F i).a) : Calls Try.prog 45 #[.agg #[v, .int .i64 T], vv ky] w fun e w' => ∃ y, e = .returned (vv y) ∧ ((¬ c = 0 ∧ y = vz) ∨ (c = 0 ∧ Gt n F u y)) ∧ Kq w w' := by
  obtain ⟨pa, ca, rfl, ha2⟩ := ha.sl
  have hnI : (n : Int) ≤ 1048576 := by have := tb.len; omega
  have HKEY := fun w => sp_key hy hxk kb.g w
  have HAT : Hid (c = 0 → ∀ W, Kq w W → Calls Try.prog 68 #[.agg #[.slice pa n ca, .int .i64 T], vv u] W fun e w' => ∃ r : Int, e = .returned (.int .i64 r) ∧ At n F u r ∧ Kq W w') := (fun hc W q => sp_at T u W (ha.kq q) tb hks (huk hc).key (huk hc).vb (huk hc).sz : c = 0 → ∀ W, Kq w W → _)
  have HROW : Hid ((0 < n → pa = some ⟨g0, 0, none⟩ ∧ n ≤ ca) ∧ (∀ i, i < n → Cp w ⟨g0, i * 11, none⟩ (F i))) := (⟨ha2, ha.ce⟩ : _ ∧ _)
  have HGA : Hid ((¬ c = 0 → ((¬ c = 0 ∧ vz = vz) ∨ (c = 0 ∧ Gt n F u vz))) ∧ (∀ r, c = 0 → At n F u r → ((r = -1 ∧ Gt n F u vz) ∨ ∃ j : Nat, j < n ∧ r = (j : Int) ∧ Gt n F u (F j).b))) := (⟨fun h => .inl ⟨h, rfl⟩, fun r hc h => by
    rcases h with ⟨e, h⟩ | ⟨j, hj, e, h⟩
    · exact .inl ⟨e, .inl ⟨rfl, h⟩⟩
    · exact .inr ⟨j, hj, e, .inr ⟨j, hj, h, rfl⟩⟩⟩ : _ ∧ _)
  generalize Gt n F u = Gu at HGA ⊢
  generalize At n F u = Au at HGA HAT
  clear huk hks tb kb hy hxk ha2 ha
  obtain ⟨uk, um, ug, ux, ur⟩ := u
  obtain ⟨k, m, g, x, r⟩ := ky
  unfold vv at HKEY HAT ⊢
  unfold va at HKEY
  dsimp only at HKEY HAT ⊢
  obtain ⟨w3, hw3⟩ : ∃ w3, w3 = ((w.alloc (.cells #[.slice pa n ca, .int .i64 T] 40)).alloc (.cells #[.int .i64 k, .int .i64 m, .float .f64 g, .string x, .int .i64 r] 26)).alloc (.cells #[.int .i64 0, .int .i64 0, .float .f64 0, .string ⟨#[]⟩, .int .i64 0] 26) := ⟨_, rfl⟩
  obtain ⟨x0, x1, x2, z3, k3⟩ := three_new w _ _ _ _ _ _ w3 hw3
  have rf3 := Rw.three hw3
  have HX : Hid (Kq w w3 ∧ Rw w3 (w.heap.size + 2) ∧ w3.heap[w.heap.size]? = some (.cells #[.slice pa n ca, .int .i64 T] 40 (0, 0)) ∧ w3.heap.size = w.heap.size + 3) := (⟨k3, rf3, x0, z3⟩ : _ ∧ _ ∧ _ ∧ _)
  clear x0 x1 x2 z3 k3 rf3
  have hst : ∀ (a : Addr) (n : Nat) (m : Mode) (w : World), (store a (.float .f64 n) m).run Try.prog w = stored Try.prog w a (.float .f64 n) m := fun a n m w => run_store _ _ _ _ _ rfl
  go_enter Try.func45, Try.ntmps45
  go_wp2_with fail
  rw [← hw3]
  clear hw3
  refine (HKEY _).mono ?_
  rintro e w5 ⟨rfl, k5⟩
  go_upto_region 2 with fail
  have ga : Kq w5 (w5.alloc (.cells #[.int .i64 c, .int .i64 uk, .int .i64 um, .float .f64 ug, .string ux, .int .i64 ur] 28)) := kq_alloc _ _ _
  have hX := (show Kq w w3 ∧ Rw w3 (w.heap.size + 2) ∧ w3.heap[w.heap.size]? = some (.cells #[.slice pa n ca, .int .i64 T] 40 (0, 0)) ∧ w3.heap.size = w.heap.size + 3 from HX)
  have k36 : Kq w3 (w5.alloc (.cells #[.int .i64 c, .int .i64 uk, .int .i64 um, .float .f64 ug, .string ux, .int .i64 ur] 28)) := k5.trans ga
  have HA6 : Hid (Ac (w5.alloc (.cells #[.int .i64 c, .int .i64 uk, .int .i64 um, .float .f64 ug, .string ux, .int .i64 ur] 28)) w5.heap.size c ⟨uk, um, ug, ux, ur⟩) := Ac.new _ _ _ _ _ _ _ _
  have HRF : Hid (Rw (w5.alloc (.cells #[.int .i64 c, .int .i64 uk, .int .i64 um, .float .f64 ug, .string ux, .int .i64 ur] 28)) (w.heap.size + 2)) := hX.2.1.kq k36
  have HGK : Hid (Kq w (w5.alloc (.cells #[.int .i64 c, .int .i64 uk, .int .i64 um, .float .f64 ug, .string ux, .int .i64 ur] 28))) := hX.1.trans k36
  have t0 := k36.cell (cell_of hX.2.2.1 (j := 0) rfl)
  have t1 := k36.cell (cell_of hX.2.2.1 (j := 1) rfl)
  have hz2 : w.heap.size + 2 < w5.heap.size := by have h1 := hX.2.2.2; have h3 := k5.size; omega
  clear ga hX k36 k5 HX HKEY
  generalize w5.alloc (.cells #[.int .i64 c, .int .i64 uk, .int .i64 um, .float .f64 ug, .string ux, .int .i64 ur] 28) = w6 at HA6 HRF HGK t0 t1 ⊢
  generalize w5.heap.size = VB at HA6 hz2 ⊢
  obtain ⟨a0, a1, a2, a3, a4, a5⟩ := (show Ac w6 VB c ⟨uk, um, ug, ux, ur⟩ from HA6)
  dsimp only at a0 a1 a2 a3 a4 a5
  by_cases hc : c = 0
  case neg =>
    have HE : Hid ((¬ c = 0 ∧ (⟨0, 0, 0, ⟨#[]⟩, 0⟩ : Vv) = vz) ∨ (c = 0 ∧ Gu ⟨0, 0, 0, ⟨#[]⟩, 0⟩)) := (.inl ⟨hc, rfl⟩ : _ ∨ _)
    have hcb : (c != 0) = true := by simpa using hc
    have GK : Hid (Kq w w6) := HGK
    have RF : Hid (Rw w6 (w.heap.size + 2)) := HRF
    obtain ⟨u0, u1, u2, u3, u4, uz⟩ := (show Rw w6 (w.heap.size + 2) from RF)
    clear HGA HAT HROW HA6 HRF HGK hc t0 t1
    go_wp2_with fail
    obtain ⟨e0, e1, e2, e3, e4⟩ := rw_set (show Rw w6 (w.heap.size + 2) from RF) 0 0 0 ⟨#[]⟩ 0
    have GG : Hid (Kq w (s5 w6 (w.heap.size + 2) 0 0 0 ⟨#[]⟩ 0)) := s5_kq GK (by omega) 0 0 0 ⟨#[]⟩ 0
    obtain ⟨WF, hWF⟩ : ∃ WF, WF = s5 w6 (w.heap.size + 2) 0 0 0 ⟨#[]⟩ 0 := ⟨_, rfl⟩
    rw [← hWF] at e0 e1 e2 e3 e4 GG
    have hWF' := hWF
    unfold s5 at hWF'
    rw [← hWF']
    clear hWF hWF'
    dsimp only at e0 e1 e2 e3 e4
    refine bodyPost_ret (by simp [results, Try.results45, go_sem, e0, e1, e2, e3, e4]; rfl) rfl ?_
    exact ⟨⟨0, 0, 0, ⟨#[]⟩, 0⟩, rfl, HE, GG⟩
  have HC0 : Hid (c = 0) := hc
  have HAT6 : Hid (Calls Try.prog 68 #[.agg #[.slice pa n ca, .int .i64 T], .agg #[.int .i64 uk, .int .i64 um, .float .f64 ug, .string ux, .int .i64 ur]] w6 fun e w' => ∃ r : Int, e = .returned (.int .i64 r) ∧ Au r ∧ Kq w6 w') := (show c = 0 → ∀ W, Kq w W → _ from HAT) hc w6 HGK
  have hcf : (c != 0) = false := by simp [hc]
  clear HAT HA6 hc
  go_wp2_with fail
  refine (show Calls Try.prog 68 #[.agg #[.slice pa n ca, .int .i64 T], .agg #[.int .i64 uk, .int .i64 um, .float .f64 ug, .string ux, .int .i64 ur]] w6 _ from HAT6).mono ?_
  rintro e w7 ⟨q, rfl, hat, k7⟩
  have GK : Hid (Kq w w7) := Kq.trans HGK k7
  have RF : Hid (Rw w7 (w.heap.size + 2)) := Rw.kq HRF k7
  have s0 := k7.cell t0
  obtain ⟨u0, u1, u2, u3, u4, uz⟩ := (show Rw w7 (w.heap.size + 2) from RF)
  have hq := (show _ ∧ (∀ r, c = 0 → Au r → ((r = -1 ∧ Gu vz) ∨ ∃ j : Nat, j < n ∧ r = (j : Int) ∧ Gu (F j).b)) from HGA).2 q HC0 hat
  clear HAT6 HGA hat k7 HRF HGK t0 t1 a0 a1 a2 a3 a4 a5
  rcases hq with ⟨rfl, hgu⟩ | ⟨j, hj, rfl, hgu⟩
  · have HE : Hid ((¬ c = 0 ∧ (⟨0, 0, 0, ⟨#[]⟩, 0⟩ : Vv) = vz) ∨ (c = 0 ∧ Gu ⟨0, 0, 0, ⟨#[]⟩, 0⟩)) := (.inr ⟨HC0, hgu⟩ : _ ∨ _)
    clear hgu HC0 HROW
    go_wp2_with fail
    obtain ⟨e0, e1, e2, e3, e4⟩ := rw_set (show Rw w7 (w.heap.size + 2) from RF) 0 0 0 ⟨#[]⟩ 0
    have GG : Hid (Kq w (s5 w7 (w.heap.size + 2) 0 0 0 ⟨#[]⟩ 0)) := s5_kq GK (by omega) 0 0 0 ⟨#[]⟩ 0
    obtain ⟨WF, hWF⟩ : ∃ WF, WF = s5 w7 (w.heap.size + 2) 0 0 0 ⟨#[]⟩ 0 := ⟨_, rfl⟩
    rw [← hWF] at e0 e1 e2 e3 e4 GG
    have hWF' := hWF
    unfold s5 at hWF'
    rw [← hWF']
    clear hWF hWF'
    dsimp only at e0 e1 e2 e3 e4
    refine bodyPost_ret (by simp [results, Try.results45, go_sem, e0, e1, e2, e3, e4]; rfl) rfl ?_
    exact ⟨⟨0, 0, 0, ⟨#[]⟩, 0⟩, rfl, HE, GG⟩
  · have HE : Hid ((¬ c = 0 ∧ (F j).b = vz) ∨ (c = 0 ∧ Gu (F j).b)) := (.inr ⟨HC0, hgu⟩ : _ ∨ _)
    have hR := (show (0 < n → pa = some ⟨g0, 0, none⟩ ∧ n ≤ ca) ∧ (∀ i, i < n → Cp w ⟨g0, i * 11, none⟩ (F i)) from HROW)
    obtain ⟨rfl, hca⟩ := hR.1 (by omega)
    obtain ⟨d0, d1, d2, d3, d4, d5, d6, d7, d8, d9, d10⟩ := (hR.2 j hj).kq (show Kq w w7 from GK)
    have hjI : (j : Int) < (n : Int) := by omega
    have hj0 : ¬ (j : Int) < 0 := by omega
    clear hR HROW hgu HC0
    generalize F j = p at HE d0 d1 d2 d3 d4 d5 d6 d7 d8 d9 d10
    obtain ⟨pa', ⟨yk, ym, yg, yx, yr⟩, pt⟩ := p
    dsimp only at HE d0 d1 d2 d3 d4 d5 d6 d7 d8 d9 d10
    go_wp2_with fail
    clear d0 d1 d2 d3 d4 d5 d6 d7 d8 d9 d10 u0 u1 u2 u3 u4 uz s0
    obtain ⟨e0, e1, e2, e3, e4⟩ := rw_set (show Rw w7 (w.heap.size + 2) from RF) yk ym yg yx yr
    have GG : Hid (Kq w (s5 w7 (w.heap.size + 2) yk ym yg yx yr)) := s5_kq GK (by omega) yk ym yg yx yr
    obtain ⟨WF, hWF⟩ : ∃ WF, WF = s5 w7 (w.heap.size + 2) yk ym yg yx yr := ⟨_, rfl⟩
    rw [← hWF] at e0 e1 e2 e3 e4 GG
    have hWF' := hWF
    unfold s5 at hWF'
    rw [← hWF']
    clear hWF hWF'
    dsimp only at e0 e1 e2 e3 e4
    refine bodyPost_ret (by simp [results, Try.results45, go_sem, e0, e1, e2, e3, e4]; rfl) rfl ?_
    exact ⟨⟨yk, ym, yg, yx, yr⟩, rfl, HE, GG⟩
set_option maxHeartbeats 8000000 in
theorem sp_get {v : Value} {g0 n : Nat} {F : Nat → Pv} (T : Int) (ky : Vv) (c : Int) (u : Vv) (hy : Ky ky c u) (kb : Vb ky) (hxk : (ky.x.size : Int) ≤ 1048576) (huk : c = 0 → Uk u) (w : World) (ha : OwnP w v g0 n F) (tb : Tb n F) : Calls Try.prog 19 #[.agg #[v, .int .i64 T], vv ky] w fun e w' => ∃ y, e = .returned (vv y) ∧ GtA n F T c u y ∧ Kq w w' := by
  obtain ⟨pa, ca, rfl, ha2⟩ := ha.sl
  have HG : Hid (tok n F T → ∀ W, Kq w W → Calls Try.prog 45 #[.agg #[.slice pa n ca, .int .i64 T], vv ky] W fun e w' => ∃ y, e = .returned (vv y) ∧ ((¬ c = 0 ∧ y = vz) ∨ (c = 0 ∧ Gt n F u y)) ∧ Kq W w') := (fun ht W q => sp_get0 T ky c u hy kb hxk huk W (ha.kq q) tb (fun i hi => (ht.2.2.2 i hi).1) : tok n F T → ∀ W, Kq w W → _)
  have HGA : Hid ((¬ tok n F T → GtA n F T c u vz) ∧ (tok n F T → ∀ y, ((¬ c = 0 ∧ y = vz) ∨ (c = 0 ∧ Gt n F u y)) → GtA n F T c u y)) := (⟨fun h => .inl ⟨fun q => h q.1, rfl⟩, fun ht y h => by
    rcases h with ⟨h1, rfl⟩ | ⟨h1, h2⟩
    · exact .inl ⟨fun q => h1 q.2, rfl⟩
    · exact .inr ⟨ht, h1, h2⟩⟩ : _ ∧ _)
  generalize GtA n F T c u = Ga at HGA ⊢
  generalize Gt n F u = Gu at HGA HG
  obtain ⟨k, m, g, x, r⟩ := ky
  unfold vv at HG ⊢
  dsimp only at HG ⊢
  obtain ⟨w3, hw3⟩ : ∃ w3, w3 = ((w.alloc (.cells #[.slice pa n ca, .int .i64 T] 40)).alloc (.cells #[.int .i64 k, .int .i64 m, .float .f64 g, .string x, .int .i64 r] 26)).alloc (.cells #[.int .i64 0, .int .i64 0, .float .f64 0, .string ⟨#[]⟩, .int .i64 0] 26) := ⟨_, rfl⟩
  obtain ⟨x0, x1, x2, z3, k3⟩ := three_new w _ _ _ _ _ _ w3 hw3
  have rf3 := Rw.three hw3
  have HO : Hid (Calls Try.prog 15 #[.agg #[.slice pa n ca, .int .i64 T]] w3 fun e w' => e = .returned (.bool (dc (tok n F T))) ∧ Kq w3 w') := sp_tableok T w3 (ha.kq k3) tb
  have HX : Hid (Kq w w3 ∧ Rw w3 (w.heap.size + 2) ∧ w3.heap[w.heap.size]? = some (.cells #[.slice pa n ca, .int .i64 T] 40 (0, 0)) ∧ w3.heap[w.heap.size + 1]? = some (.cells #[.int .i64 k, .int .i64 m, .float .f64 g, .string x, .int .i64 r] 26 (0, 0))) := (⟨k3, rf3, x0, x1⟩ : _ ∧ _ ∧ _ ∧ _)
  clear x0 x1 x2 z3 k3 rf3 ha2 ha tb hy kb hxk huk
  have hst : ∀ (a : Addr) (n : Nat) (m : Mode) (w : World), (store a (.float .f64 n) m).run Try.prog w = stored Try.prog w a (.float .f64 n) m := fun a n m w => run_store _ _ _ _ _ rfl
  go_enter Try.func19, Try.ntmps19
  go_wp2_with fail
  rw [← hw3]
  clear hw3
  refine (show Calls Try.prog 15 #[.agg #[.slice pa n ca, .int .i64 T]] w3 _ from HO).mono ?_
  rintro e w4 ⟨rfl, k4⟩
  have hX := (show Kq w w3 ∧ Rw w3 (w.heap.size + 2) ∧ w3.heap[w.heap.size]? = some (.cells #[.slice pa n ca, .int .i64 T] 40 (0, 0)) ∧ w3.heap[w.heap.size + 1]? = some (.cells #[.int .i64 k, .int .i64 m, .float .f64 g, .string x, .int .i64 r] 26 (0, 0)) from HX)
  have GK4 : Hid (Kq w w4) := hX.1.trans k4
  have RF4 : Hid (Rw w4 (w.heap.size + 2)) := hX.2.1.kq k4
  by_cases ht : tok n F T
  case neg =>
    rw [dc_f ht]
    have HE : Hid (Ga ⟨0, 0, 0, ⟨#[]⟩, 0⟩) := (show (¬ tok n F T → Ga vz) ∧ _ from HGA).1 ht
    have GK : Hid (Kq w w4) := GK4
    have RF : Hid (Rw w4 (w.heap.size + 2)) := RF4
    obtain ⟨u0, u1, u2, u3, u4, uz⟩ := (show Rw w4 (w.heap.size + 2) from RF)
    clear hX HX HO HG HGA ht k4 GK4 RF4
    go_wp2_with fail
    obtain ⟨e0, e1, e2, e3, e4⟩ := rw_set (show Rw w4 (w.heap.size + 2) from RF) 0 0 0 ⟨#[]⟩ 0
    have GG : Hid (Kq w (s5 w4 (w.heap.size + 2) 0 0 0 ⟨#[]⟩ 0)) := s5_kq GK (by omega) 0 0 0 ⟨#[]⟩ 0
    obtain ⟨WF, hWF⟩ : ∃ WF, WF = s5 w4 (w.heap.size + 2) 0 0 0 ⟨#[]⟩ 0 := ⟨_, rfl⟩
    rw [← hWF] at e0 e1 e2 e3 e4 GG
    have hWF' := hWF
    unfold s5 at hWF'
    rw [← hWF']
    clear hWF hWF'
    dsimp only at e0 e1 e2 e3 e4
    refine bodyPost_ret (by simp [results, Try.results19, go_sem, e0, e1, e2, e3, e4]; rfl) rfl ?_
    exact ⟨⟨0, 0, 0, ⟨#[]⟩, 0⟩, rfl, HE, GG⟩
  rw [dc_t ht]
  have b0 := k4.cell (cell_of hX.2.2.1 (j := 0) rfl)
  have b1 := k4.cell (cell_of hX.2.2.1 (j := 1) rfl)
  have v0 := k4.cell (cell_of hX.2.2.2 (j := 0) rfl)
  have v1 := k4.cell (cell_of hX.2.2.2 (j := 1) rfl)
  have v2 := k4.cell (cell_of hX.2.2.2 (j := 2) rfl)
  have v3 := k4.cell (cell_of hX.2.2.2 (j := 3) rfl)
  have v4 := k4.cell (cell_of hX.2.2.2 (j := 4) rfl)
  have HG4 : Hid (Calls Try.prog 45 #[.agg #[.slice pa n ca, .int .i64 T], .agg #[.int .i64 k, .int .i64 m, .float .f64 g, .string x, .int .i64 r]] w4 fun e w' => ∃ y, e = .returned (vv y) ∧ ((¬ c = 0 ∧ y = vz) ∨ (c = 0 ∧ Gu y)) ∧ Kq w4 w') := (show tok n F T → ∀ W, Kq w W → _ from HG) ht w4 GK4
  have HE0 : Hid (∀ y, ((¬ c = 0 ∧ y = vz) ∨ (c = 0 ∧ Gu y)) → Ga y) := (show _ ∧ (tok n F T → ∀ y, _ → Ga y) from HGA).2 ht
  clear hX HX HO HG HGA ht k4
  go_wp2_with fail
  refine (show Calls Try.prog 45 #[.agg #[.slice pa n ca, .int .i64 T], .agg #[.int .i64 k, .int .i64 m, .float .f64 g, .string x, .int .i64 r]] w4 _ from HG4).mono ?_
  rintro e w5 ⟨⟨yk, ym, yg, yx, yr⟩, rfl, hgy, k5⟩
  have HE : Hid (Ga ⟨yk, ym, yg, yx, yr⟩) := (show ∀ y, _ → Ga y from HE0) _ hgy
  have GK : Hid (Kq w w5) := Kq.trans GK4 k5
  have RF : Hid (Rw w5 (w.heap.size + 2)) := Rw.kq RF4 k5
  obtain ⟨u0, u1, u2, u3, u4, uz⟩ := (show Rw w5 (w.heap.size + 2) from RF)
  clear HG4 HE0 hgy k5 GK4 RF4 b0 b1 v0 v1 v2 v3 v4
  unfold vv
  dsimp only
  go_wp2_with fail
  obtain ⟨e0, e1, e2, e3, e4⟩ := rw_set (show Rw w5 (w.heap.size + 2) from RF) yk ym yg yx yr
  have GG : Hid (Kq w (s5 w5 (w.heap.size + 2) yk ym yg yx yr)) := s5_kq GK (by omega) yk ym yg yx yr
  obtain ⟨WF, hWF⟩ : ∃ WF, WF = s5 w5 (w.heap.size + 2) yk ym yg yx yr := ⟨_, rfl⟩
  rw [← hWF] at e0 e1 e2 e3 e4 GG
  have hWF' := hWF
  unfold s5 at hWF'
  rw [← hWF']
  clear hWF hWF'
  dsimp only at e0 e1 e2 e3 e4
  refine bodyPost_ret (by simp [results, Try.results19, go_sem, e0, e1, e2, e3, e4]; rfl) rfl ?_
  exact ⟨⟨yk, ym, yg, yx, yr⟩, rfl, HE, GG⟩
end Go.Proofs.Ytfpidccjcemcjaa
namespace Go.Proofs.Ytfpidccjcemcjaa
open Go.ChangeShapes Go.WideShapes Go.ChangeAt Go.RowKit
set_option linter.unusedVariables false
set_option maxRecDepth 100000
section
variable {P : Program} {ops : Array Oper} {Q : Exit → Act → World → Prop} {md : Region.Mode} {S : World → Prop} {z : Nat}
/-- two operations may come up -/
theorem AnyL.two (i j : Nat) {l : List Oper} {oi oj : Oper} {k : Nat} {listed : Array Bool} {a : Act} {w : World} (hi : l[i]? = some oi) (hj : l[j]? = some oj) (hr : Region.ready md l.toArray listed = [i, j]) (hwi : Region.wanted oi (yielded l.toArray a.tmps) = true) (hwj : Region.wanted oj (yielded l.toArray a.tmps) = true)
    (h1 : ∀ K : Act → World → Prop, Shut (∀ a' w', (i ≠ z → S w') → AnyL P md l.toArray Q S z k (listed.setIfInBounds i true) a' w' → K a' w') → Oper.wp P oi a w K Q)
    (h2 : ∀ K : Act → World → Prop, Shut (∀ a' w', (j ≠ z → S w') → AnyL P md l.toArray Q S z k (listed.setIfInBounds j true) a' w' → K a' w') → Oper.wp P oj a w K Q) : AnyL P md l.toArray Q S z (k + 1) listed a w := by
  refine ⟨fun h => absurd h (by rw [hr]; simp), fun m hm => ?_⟩
  rw [hr] at hm
  have hm' : m = i ∨ m = j := by simpa using hm
  rcases hm' with rfl | rfl
  · unfold wpOp
    have hi' : l.toArray[m]? = some oi := by simpa using hi
    simp only [hi', hwi, if_true]
    exact Or.inl (h1 _ (fun a' w' h1 h2 => ⟨h1, h2⟩))
  · unfold wpOp
    have hj' : l.toArray[m]? = some oj := by simpa using hj
    simp only [hj', hwj, if_true]
    exact Or.inl (h2 _ (fun a' w' h1 h2 => ⟨h1, h2⟩))
end
theorem conv_range {x : Nat} {z : Int} (h : floatToIntVal .f64 x .i64 = some z) : -9223372036854775808 ≤ z ∧ z ≤ 9223372036854775807 := by
  have := floatToIntVal_wf h
  simp [Lit.wf, IntKind.min, IntKind.max, IntKind.signed, IntKind.bits] at this
  omega
theorem ky_uk {v u : Vv} (h : Ky v 0 u) (vb : Vb v) (hx : (v.x.size : Int) ≤ 1048576) : Uk u := by
  refine ⟨ky_key h, ?_, ky_size h hx⟩
  generalize hc : (0 : Int) = c at h
  cases h with
  | bad ho => omega
  | nil ho k0 => omega
  | nan ho k3 hn => omega
  | whole z ho k3 hw =>
    have := conv_range hw.2.2.2.2
    exact ⟨by show -9223372036854775808 ≤ (2 : Int) ∧ (2 : Int) ≤ 9223372036854775807; omega, this, by show (0 : Nat) < 18446744073709551616; omega, by show ((0 : Nat) : Int) < 140737488355328; omega, by show -9223372036854775808 ≤ (0 : Int) ∧ (0 : Int) ≤ 9223372036854775807; omega⟩
  | flt ho k3 hn hw => exact vb
  | oth ho k0 k3 => exact vb
set_option maxHeartbeats 16000000 in
theorem law_get {v : Value} {n : Nat} {F : Nat → Pv} (T : Int) (ky : Vv) (kb : Vb ky) (w : World) (ta : Ta w v n F) : Calls Try.prog 5 #[.agg #[v, .int .i64 T], vv ky] w fun e w' => e = .returned (.bool true) ∧ Kq w w' := by
  obtain ⟨pa, ca, rfl, _⟩ := ta.row
  obtain ⟨c, u, hy⟩ := ky_ex ky
  obtain ⟨w1, hw1⟩ : ∃ w1, w1 = (w.alloc (.cells #[.slice pa n ca, .int .i64 T] 35)).alloc (.cells #[.int .i64 ky.k, .int .i64 ky.m, .float .f64 ky.g, .string ky.x, .int .i64 ky.r] 24) := ⟨_, rfl⟩
  obtain ⟨x0, x1, z1, k1⟩ := two_new w _ _ _ _ w1 hw1
  have HS : Hid (∀ W, Kq w1 W → Calls Try.prog 14 #[.agg #[.slice pa n ca, .int .i64 T], .int .i64 1048576] W fun e w' => ∃ r : Int, e = .returned (.int .i64 r) ∧ (0 ≤ r → Tb n F) ∧ -1 ≤ r ∧ r ≤ 1048576 ∧ Kq W w') := (fun W q => (sz_table T W ((ta.row.kq k1).kq q) ta.len (fun i hi => ⟨(ta.a i hi).x, (ta.b i hi).x⟩)).mono (fun e w' ⟨r, h1, h2, h3, h4, h5⟩ => ⟨r, h1, fun h => ⟨by have := (h2 h).1; omega, ta.a, ta.b, fun i hi => ((h2 h).2 i hi).1, fun i hi => ((h2 h).2 i hi).2, ta.t⟩, h3, h4, h5⟩) : ∀ W, Kq w1 W → _)
  have HT : Hid (Tb n F → ∀ W, Kq w1 W → Calls Try.prog 16 #[.agg #[.slice pa n ca, .int .i64 T]] W fun e w' => ∃ v g, e = .returned (.agg #[v, .int .i64 T]) ∧ OwnP w' v g n F ∧ W.heap.size ≤ g ∧ g < w'.heap.size ∧ Kq W w') := (fun tb W q => to_table T W ((ta.row.kq k1).kq q) tb.len : Tb n F → ∀ W, Kq w1 W → _)
  have HSZ := fun l hl w => sz_val ky l hl kb.x w
  have HTV := fun w => to_val ky w
  have HG1 : Hid (Tb n F → (ky.x.size : Int) ≤ 1048576 → ∀ W v1 g1, OwnP W v1 g1 n F → Calls Try.prog 19 #[.agg #[v1, .int .i64 T], vv ky] W fun e w' => ∃ y, e = .returned (vv y) ∧ GtA n F T c u y ∧ Kq W w') := (fun tb hx W v1 g1 ho => sp_get T ky c u hy kb hx (fun hc => ky_uk (by rw [← hc]; exact hy) kb hx) W ho tb : Tb n F → _)
  have HG2 : Hid (Tb n F → (ky.x.size : Int) ≤ 1048576 → ∀ W v1 g1, OwnP W v1 g1 n F → Calls Try.prog 20 #[.agg #[v1, .int .i64 T], vv ky] W fun e w' => ∃ y, e = .returned (vv y) ∧ GtA n F T c u y ∧ Kq W w') := (fun tb hx W v1 g1 ho => im_get T ky c u hy kb hx W ho tb : Tb n F → _)
  have HUQ : Hid (∀ y z, GtA n F T c u y → GtA n F T c u z → y = z) := (fun y z h1 h2 => h1.uniq h2 : ∀ y z, _)
  have HGL : Hid (Tb n F → ∀ y, GtA n F T c u y → y.g < 18446744073709551616) := (fun tb y h => h.glt tb : Tb n F → _)
  generalize GtA n F T c u = Ga at HG1 HG2 HUQ HGL
  clear hy kb
  obtain ⟨k, m, g, x, r⟩ := ky
  unfold vv at HSZ HTV HG1 HG2 ⊢
  dsimp only at HSZ HTV HG1 HG2 x1 hw1 ⊢
  have HSX0 : Hid (∀ W', Kq w1 W' → W'.cell? ⟨w.heap.size, 0, none⟩ = some (.slice pa n ca) ∧ W'.cell? ⟨w.heap.size, 1, none⟩ = some (.int .i64 T) ∧ Vc W' (w.heap.size + 1) ⟨k, m, g, x, r⟩) := (fun W' q => ⟨q.cell (cell_of x0 rfl), q.cell (cell_of x0 rfl), ⟨q.cell (cell_of x1 rfl), q.cell (cell_of x1 rfl), q.cell (cell_of x1 rfl), q.cell (cell_of x1 rfl), q.cell (cell_of x1 rfl)⟩⟩ : ∀ W', Kq w1 W' → _)
  have HK : Hid (Kq w w1) := k1
  clear ta k1 x0 x1 z1
  have hst : ∀ (a : Addr) (n : Nat) (m : Mode) (w : World), (store a (.float .f64 n) m).run Try.prog w = stored Try.prog w a (.float .f64 n) m := fun a n m w => run_store _ _ _ _ _ rfl
  go_enter Try.func5, Try.ntmps5
  go_wp2_with fail
  rw [← hw1]
  clear hw1
  refine ((show ∀ W, Kq w1 W → _ from HS) w1 (Kq.refl _)).mono ?_
  rintro e w2 ⟨l1, rfl, htb, hr0, hr1, g2⟩
  have HK2 : Hid (Kq w1 w2) := g2
  have HTB : Hid (0 ≤ l1 → Tb n F) := htb
  clear htb g2 HS
  rcases Int.lt_or_le l1 0 with hr | hr
  · go_wp2_with fail
    go_ret
    exact ⟨rfl, Kq.trans HK HK2⟩
  have hr' : ¬ l1 < 0 := by omega
  have tb := (show 0 ≤ l1 → Tb n F from HTB) hr
  obtain ⟨a0, a1, ⟨v0, v1, v2, v3, v4⟩⟩ := (show ∀ W', Kq w1 W' → W'.cell? ⟨w.heap.size, 0, none⟩ = some (.slice pa n ca) ∧ W'.cell? ⟨w.heap.size, 1, none⟩ = some (.int .i64 T) ∧ Vc W' (w.heap.size + 1) ⟨k, m, g, x, r⟩ from HSX0) w2 HK2
  dsimp only at v0 v1 v2 v3 v4
  have HSZ1 := fun w => HSZ l1 ⟨hr, hr1⟩ w
  clear HSZ HTB
  go_wp2_with fail
  refine (HSZ1 _).mono ?_
  rintro e w3 ⟨rfl, g3⟩
  have HK3 : Hid (Kq w1 w3) := Kq.trans HK2 (.of_grown g3)
  clear g3 HSZ1 a0 a1 v0 v1 v2 v3 v4 HK2
  by_cases hxs : (x.size : Int) ≤ l1
  case neg =>
    rw [if_neg hxs]
    clear HSX0 HT HTV HG1 HG2 HUQ HGL tb
    go_wp2_with fail
    go_ret
    exact ⟨rfl, Kq.trans HK HK3⟩
  rw [if_pos hxs]
  have hx2 : ¬ l1 - (x.size : Int) < 0 := by omega
  have hx3 : (x.size : Int) ≤ 1048576 := by omega
  have HTH : Hid (∀ W, Kq w1 W → Calls Try.prog 16 #[.agg #[.slice pa n ca, .int .i64 T]] W fun e w' => ∃ v g, e = .returned (.agg #[v, .int .i64 T]) ∧ OwnP w' v g n F ∧ W.heap.size ≤ g ∧ g < w'.heap.size ∧ Kq W w') := (show Tb n F → ∀ W, Kq w1 W → _ from HT) tb
  have HSG := (show Tb n F → _ from HG1) tb hx3
  have HIG := (show Tb n F → _ from HG2) tb hx3
  have HGLT : Hid (∀ y, Ga y → y.g < 18446744073709551616) := (show Tb n F → _ from HGL) tb
  have TBH : Hid (Tb n F) := tb
  have HSX := (show ∀ W', Kq w1 W' → W'.cell? ⟨w.heap.size, 0, none⟩ = some (.slice pa n ca) ∧ W'.cell? ⟨w.heap.size, 1, none⟩ = some (.int .i64 T) ∧ Vc W' (w.heap.size + 1) ⟨k, m, g, x, r⟩ from HSX0)
  clear HT HG1 HG2 HGL tb hxs hr hr' hr0 hr1
  go_upto_region 8 with fail
  go_cut [6] from 19 to 23 (fun s6 wx => ∃ (Z : Nat) (y : Vv), s6 = .pointer (some ⟨Z, 0, none⟩) ∧ Hid (Kq w1 wx ∧ Vc wx Z y ∧ Ga y))
  case first =>
    clear HIG HUQ HGLT TBH HSX0
    refine AnyL.region (S := fun W' : World => W'.cell? ⟨w.heap.size, 0, none⟩ = some (.slice pa n ca) ∧ W'.cell? ⟨w.heap.size, 1, none⟩ = some (.int .i64 T) ∧ Vc W' (w.heap.size + 1) ⟨k, m, g, x, r⟩) (z := 6) (by kernel_rfl) ?_
    obtain ⟨VD, hVD⟩ : ∃ VD, VD = w3.drew := ⟨_, rfl⟩
    rw [← hVD]
    have KD : Hid (Kq w1 VD) := by rw [hVD]; exact Kq.drew HK3
    have hS0 : (fun W' : World => W'.cell? ⟨w.heap.size, 0, none⟩ = some (.slice pa n ca) ∧ W'.cell? ⟨w.heap.size, 1, none⟩ = some (.int .i64 T) ∧ Vc W' (w.heap.size + 1) ⟨k, m, g, x, r⟩) VD := HSX VD KD
    clear hVD
    refine AnyL.takeAt 0 (.agg #[.slice pa n ca, .int .i64 T]) rfl (by kernel_rfl) (by kernel_rfl) (by kernel_rfl) (by kernel_rfl) (fun _ _ _ h => h) rfl hS0 (by intro W hW; obtain ⟨q0, q1, ⟨q2, q3, q4, q5, q6⟩⟩ := hW; go_simp) ?_
    try simp only [Act.put, List.setIfInBounds_toArray, List.set_cons_zero, List.set_cons_succ]
    refine AnyL.takeAt 2 (.agg #[.int .i64 k, .int .i64 m, .float .f64 g, .string x, .int .i64 r]) rfl (by kernel_rfl) (by kernel_rfl) (by kernel_rfl) (by kernel_rfl) (fun _ _ _ h => h) rfl hS0 (by intro W hW; obtain ⟨q0, q1, ⟨q2, q3, q4, q5, q6⟩⟩ := hW; go_simp) ?_
    try simp only [Act.put, List.setIfInBounds_toArray, List.set_cons_zero, List.set_cons_succ]
    refine AnyL.two 1 5 rfl rfl (by kernel_rfl) rfl rfl ?_ ?_
    · intro K hK
      go_simp
      refine ((show ∀ W, Kq w1 W → _ from HTH) (VD) KD).mono ?_
      rintro e w_1 ⟨vt, gt, rfl, hot, _, _, gk⟩
      have HOT : Hid (OwnP w_1 vt gt n F) := hot
      obtain ⟨pt, ct, rfl, _⟩ := hot.sl
      clear hot
      have K_2 : Hid (Kq w1 w_1) := Kq.trans KD gk
      have S_3 := HSX w_1 K_2
      clear gk
      refine hK.out _ _ (fun _ => S_3) ?_
      clear hK K
      try simp only [Act.put, List.setIfInBounds_toArray, List.set_cons_zero, List.set_cons_succ]
      refine AnyL.two 3 5 rfl rfl (by kernel_rfl) rfl rfl ?_ ?_
      · intro K hK
        go_simp
        refine (HTV (w_1)).mono ?_
        rintro e w_4 ⟨rfl, gk'⟩
        have gk : Kq _ w_4 := .of_grown gk'
        clear gk'
        have K_5 : Hid (Kq w1 w_4) := Kq.trans K_2 gk
        have S_6 := HSX w_4 K_5
        have HO_7 : Hid (OwnP w_4 (.slice pt n ct) gt n F) := OwnP.kq HOT gk
        clear gk
        refine hK.out _ _ (fun _ => S_6) ?_
        clear hK K
        try simp only [Act.put, List.setIfInBounds_toArray, List.set_cons_zero, List.set_cons_succ]
        refine AnyL.two 4 5 rfl rfl (by kernel_rfl) rfl rfl ?_ ?_
        · intro K hK
          go_simp
          refine (HSG (w_4) _ _ HO_7).mono ?_
          rintro e w_8 ⟨⟨yk, ym, yg, yx, yr⟩, rfl, hgy, gk⟩
          try unfold vv
          dsimp only
          have HGY : Hid (Ga ⟨yk, ym, yg, yx, yr⟩) := hgy
          clear hgy
          have K_9 : Hid (Kq w1 w_8) := Kq.trans K_5 gk
          have S_10 := HSX w_8 K_9
          have HO_11 : Hid (OwnP w_8 (.slice pt n ct) gt n F) := OwnP.kq HO_7 gk
          clear gk
          refine hK.out _ _ (fun _ => S_10) ?_
          clear hK K
          try simp only [Act.put, List.setIfInBounds_toArray, List.set_cons_zero, List.set_cons_succ]
          refine AnyL.oneAt 5 rfl (by kernel_rfl) rfl ?_
          intro K hK
          go_simp
          obtain ⟨Z_16, hZ⟩ : ∃ Z, Z = (w_8).heap.size := ⟨_, rfl⟩
          obtain ⟨w_12, hWn⟩ : ∃ Wn, Wn = ((w_8).alloc (.cells #[.int .i64 0, .int .i64 0, .float .f64 0, .string ⟨#[]⟩, .int .i64 0] 26)) := ⟨_, rfl⟩
          have gk : Kq (w_8) w_12 := by rw [hWn]; exact kq_alloc _ _ _
          have R_15 : Hid (Rw w_12 Z_16) := by rw [hWn, hZ]; exact Rw.new _ _
          have hz_17 : (w1).heap.size ≤ Z_16 := by rw [hZ]; exact (show Kq w1 (w_8) from K_9).size
          have K_13 : Hid (Kq w1 w_12) := Kq.trans K_9 gk
          have S_14 := HSX w_12 K_13
          have HO_18 : Hid (OwnP w_12 (.slice pt n ct) gt n F) := OwnP.kq HO_11 gk
          have hWd : (w_8).alloc (.cells #[.int .i64 0, .int .i64 0, .float .f64 0, .string ⟨#[]⟩, .int .i64 0] 26) = w_12 := hWn.symm
          have hZd : (w_8).heap.size = Z_16 := hZ.symm
          try simp only [hWd]
          try rw [hWd]
          try rw [hZd]
          clear gk hWn hZ hWd hZd
          refine hK.out _ _ (fun _ => S_14) ?_
          clear hK K
          try simp only [Act.put, List.setIfInBounds_toArray, List.set_cons_zero, List.set_cons_succ]
          obtain ⟨r0, r1, r2, r3, r4, rz⟩ := (show Rw w_12 Z_16 from R_15)
          refine AnyL.oneAt 6 rfl (by kernel_rfl) rfl ?_
          intro K hK
          go_simp
          refine hK.out _ _ (fun h => absurd rfl h) ?_
          clear hK K
          refine AnyL.done (by kernel_rfl) ?_
          have HV := rw_set (show Rw w_12 Z_16 from R_15) yk ym yg yx yr
          have HKF := s5_kq (show Kq w1 w_12 from K_13) hz_17 yk ym yg yx yr
          have hWF : s5 w_12 Z_16 yk ym yg yx yr = s5 w_12 Z_16 yk ym yg yx yr := rfl
          obtain ⟨WF, hWF⟩ : ∃ WF, WF = s5 w_12 Z_16 yk ym yg yx yr := ⟨_, rfl⟩
          rw [← hWF] at HV HKF
          unfold s5 at hWF
          rw [← hWF]
          clear hWF
          go_wp2_with fail
          go_meet
          exact ⟨Z_16, ⟨yk, ym, yg, yx, yr⟩, rfl, (⟨HKF, HV, HGY⟩ : _ ∧ _ ∧ _)⟩
        · intro K hK
          go_simp
          obtain ⟨Z_23, hZ⟩ : ∃ Z, Z = (w_4).heap.size := ⟨_, rfl⟩
          obtain ⟨w_19, hWn⟩ : ∃ Wn, Wn = ((w_4).alloc (.cells #[.int .i64 0, .int .i64 0, .float .f64 0, .string ⟨#[]⟩, .int .i64 0] 26)) := ⟨_, rfl⟩
          have gk : Kq (w_4) w_19 := by rw [hWn]; exact kq_alloc _ _ _
          have R_22 : Hid (Rw w_19 Z_23) := by rw [hWn, hZ]; exact Rw.new _ _
          have hz_24 : (w1).heap.size ≤ Z_23 := by rw [hZ]; exact (show Kq w1 (w_4) from K_5).size
          have K_20 : Hid (Kq w1 w_19) := Kq.trans K_5 gk
          have S_21 := HSX w_19 K_20
          have HO_25 : Hid (OwnP w_19 (.slice pt n ct) gt n F) := OwnP.kq HO_7 gk
          have hWd : (w_4).alloc (.cells #[.int .i64 0, .int .i64 0, .float .f64 0, .string ⟨#[]⟩, .int .i64 0] 26) = w_19 := hWn.symm
          have hZd : (w_4).heap.size = Z_23 := hZ.symm
          try simp only [hWd]
          try rw [hWd]
          try rw [hZd]
          clear gk hWn hZ hWd hZd
          refine hK.out _ _ (fun _ => S_21) ?_
          clear hK K
          try simp only [Act.put, List.setIfInBounds_toArray, List.set_cons_zero, List.set_cons_succ]
          refine AnyL.oneAt 4 rfl (by kernel_rfl) rfl ?_
          intro K hK
          go_simp
          refine (HSG (w_19) _ _ HO_25).mono ?_
          rintro e w_26 ⟨⟨yk, ym, yg, yx, yr⟩, rfl, hgy, gk⟩
          try unfold vv
          dsimp only
          have HGY : Hid (Ga ⟨yk, ym, yg, yx, yr⟩) := hgy
          clear hgy
          have K_27 : Hid (Kq w1 w_26) := Kq.trans K_20 gk
          have S_28 := HSX w_26 K_27
          have R_29 : Hid (Rw w_26 Z_23) := Rw.kq R_22 gk
          have HO_30 : Hid (OwnP w_26 (.slice pt n ct) gt n F) := OwnP.kq HO_25 gk
          clear gk
          refine hK.out _ _ (fun _ => S_28) ?_
          clear hK K
          try simp only [Act.put, List.setIfInBounds_toArray, List.set_cons_zero, List.set_cons_succ]
          obtain ⟨r0, r1, r2, r3, r4, rz⟩ := (show Rw w_26 Z_23 from R_29)
          refine AnyL.oneAt 6 rfl (by kernel_rfl) rfl ?_
          intro K hK
          go_simp
          refine hK.out _ _ (fun h => absurd rfl h) ?_
          clear hK K
          refine AnyL.done (by kernel_rfl) ?_
          have HV := rw_set (show Rw w_26 Z_23 from R_29) yk ym yg yx yr
          have HKF := s5_kq (show Kq w1 w_26 from K_27) hz_24 yk ym yg yx yr
          have hWF : s5 w_26 Z_23 yk ym yg yx yr = s5 w_26 Z_23 yk ym yg yx yr := rfl
          obtain ⟨WF, hWF⟩ : ∃ WF, WF = s5 w_26 Z_23 yk ym yg yx yr := ⟨_, rfl⟩
          rw [← hWF] at HV HKF
          unfold s5 at hWF
          rw [← hWF]
          clear hWF
          go_wp2_with fail
          go_meet
          exact ⟨Z_23, ⟨yk, ym, yg, yx, yr⟩, rfl, (⟨HKF, HV, HGY⟩ : _ ∧ _ ∧ _)⟩
      · intro K hK
        go_simp
        obtain ⟨Z_35, hZ⟩ : ∃ Z, Z = (w_1).heap.size := ⟨_, rfl⟩
        obtain ⟨w_31, hWn⟩ : ∃ Wn, Wn = ((w_1).alloc (.cells #[.int .i64 0, .int .i64 0, .float .f64 0, .string ⟨#[]⟩, .int .i64 0] 26)) := ⟨_, rfl⟩
        have gk : Kq (w_1) w_31 := by rw [hWn]; exact kq_alloc _ _ _
        have R_34 : Hid (Rw w_31 Z_35) := by rw [hWn, hZ]; exact Rw.new _ _
        have hz_36 : (w1).heap.size ≤ Z_35 := by rw [hZ]; exact (show Kq w1 (w_1) from K_2).size
        have K_32 : Hid (Kq w1 w_31) := Kq.trans K_2 gk
        have S_33 := HSX w_31 K_32
        have HO_37 : Hid (OwnP w_31 (.slice pt n ct) gt n F) := OwnP.kq HOT gk
        have hWd : (w_1).alloc (.cells #[.int .i64 0, .int .i64 0, .float .f64 0, .string ⟨#[]⟩, .int .i64 0] 26) = w_31 := hWn.symm
        have hZd : (w_1).heap.size = Z_35 := hZ.symm
        try simp only [hWd]
        try rw [hWd]
        try rw [hZd]
        clear gk hWn hZ hWd hZd
        refine hK.out _ _ (fun _ => S_33) ?_
        clear hK K
        try simp only [Act.put, List.setIfInBounds_toArray, List.set_cons_zero, List.set_cons_succ]
        refine AnyL.oneAt 3 rfl (by kernel_rfl) rfl ?_
        intro K hK
        go_simp
        refine (HTV (w_31)).mono ?_
        rintro e w_38 ⟨rfl, gk'⟩
        have gk : Kq _ w_38 := .of_grown gk'
        clear gk'
        have K_39 : Hid (Kq w1 w_38) := Kq.trans K_32 gk
        have S_40 := HSX w_38 K_39
        have R_41 : Hid (Rw w_38 Z_35) := Rw.kq R_34 gk
        have HO_42 : Hid (OwnP w_38 (.slice pt n ct) gt n F) := OwnP.kq HO_37 gk
        clear gk
        refine hK.out _ _ (fun _ => S_40) ?_
        clear hK K
        try simp only [Act.put, List.setIfInBounds_toArray, List.set_cons_zero, List.set_cons_succ]
        refine AnyL.oneAt 4 rfl (by kernel_rfl) rfl ?_
        intro K hK
        go_simp
        refine (HSG (w_38) _ _ HO_42).mono ?_
        rintro e w_43 ⟨⟨yk, ym, yg, yx, yr⟩, rfl, hgy, gk⟩
        try unfold vv
        dsimp only
        have HGY : Hid (Ga ⟨yk, ym, yg, yx, yr⟩) := hgy
        clear hgy
        have K_44 : Hid (Kq w1 w_43) := Kq.trans K_39 gk
        have S_45 := HSX w_43 K_44
        have R_46 : Hid (Rw w_43 Z_35) := Rw.kq R_41 gk
        have HO_47 : Hid (OwnP w_43 (.slice pt n ct) gt n F) := OwnP.kq HO_42 gk
        clear gk
        refine hK.out _ _ (fun _ => S_45) ?_
        clear hK K
        try simp only [Act.put, List.setIfInBounds_toArray, List.set_cons_zero, List.set_cons_succ]
        obtain ⟨r0, r1, r2, r3, r4, rz⟩ := (show Rw w_43 Z_35 from R_46)
        refine AnyL.oneAt 6 rfl (by kernel_rfl) rfl ?_
        intro K hK
        go_simp
        refine hK.out _ _ (fun h => absurd rfl h) ?_
        clear hK K
        refine AnyL.done (by kernel_rfl) ?_
        have HV := rw_set (show Rw w_43 Z_35 from R_46) yk ym yg yx yr
        have HKF := s5_kq (show Kq w1 w_43 from K_44) hz_36 yk ym yg yx yr
        have hWF : s5 w_43 Z_35 yk ym yg yx yr = s5 w_43 Z_35 yk ym yg yx yr := rfl
        obtain ⟨WF, hWF⟩ : ∃ WF, WF = s5 w_43 Z_35 yk ym yg yx yr := ⟨_, rfl⟩
        rw [← hWF] at HV HKF
        unfold s5 at hWF
        rw [← hWF]
        clear hWF
        go_wp2_with fail
        go_meet
        exact ⟨Z_35, ⟨yk, ym, yg, yx, yr⟩, rfl, (⟨HKF, HV, HGY⟩ : _ ∧ _ ∧ _)⟩
    · intro K hK
      go_simp
      obtain ⟨Z_52, hZ⟩ : ∃ Z, Z = (VD).heap.size := ⟨_, rfl⟩
      obtain ⟨w_48, hWn⟩ : ∃ Wn, Wn = ((VD).alloc (.cells #[.int .i64 0, .int .i64 0, .float .f64 0, .string ⟨#[]⟩, .int .i64 0] 26)) := ⟨_, rfl⟩
      have gk : Kq (VD) w_48 := by rw [hWn]; exact kq_alloc _ _ _
      have R_51 : Hid (Rw w_48 Z_52) := by rw [hWn, hZ]; exact Rw.new _ _
      have hz_53 : (w1).heap.size ≤ Z_52 := by rw [hZ]; exact (show Kq w1 (VD) from KD).size
      have K_49 : Hid (Kq w1 w_48) := Kq.trans KD gk
      have S_50 := HSX w_48 K_49
      have hWd : (VD).alloc (.cells #[.int .i64 0, .int .i64 0, .float .f64 0, .string ⟨#[]⟩, .int .i64 0] 26) = w_48 := hWn.symm
      have hZd : (VD).heap.size = Z_52 := hZ.symm
      try simp only [hWd]
      try rw [hWd]
      try rw [hZd]
      clear gk hWn hZ hWd hZd
      refine hK.out _ _ (fun _ => S_50) ?_
      clear hK K
      try simp only [Act.put, List.setIfInBounds_toArray, List.set_cons_zero, List.set_cons_succ]
      refine AnyL.oneAt 1 rfl (by kernel_rfl) rfl ?_
      intro K hK
      go_simp
      refine ((show ∀ W, Kq w1 W → _ from HTH) (w_48) K_49).mono ?_
      rintro e w_54 ⟨vt, gt, rfl, hot, _, _, gk⟩
      have HOT : Hid (OwnP w_54 vt gt n F) := hot
      obtain ⟨pt, ct, rfl, _⟩ := hot.sl
      clear hot
      have K_55 : Hid (Kq w1 w_54) := Kq.trans K_49 gk
      have S_56 := HSX w_54 K_55
      have R_57 : Hid (Rw w_54 Z_52) := Rw.kq R_51 gk
      clear gk
      refine hK.out _ _ (fun _ => S_56) ?_
      clear hK K
      try simp only [Act.put, List.setIfInBounds_toArray, List.set_cons_zero, List.set_cons_succ]
      refine AnyL.oneAt 3 rfl (by kernel_rfl) rfl ?_
      intro K hK
      go_simp
      refine (HTV (w_54)).mono ?_
      rintro e w_58 ⟨rfl, gk'⟩
      have gk : Kq _ w_58 := .of_grown gk'
      clear gk'
      have K_59 : Hid (Kq w1 w_58) := Kq.trans K_55 gk
      have S_60 := HSX w_58 K_59
      have R_61 : Hid (Rw w_58 Z_52) := Rw.kq R_57 gk
      have HO_62 : Hid (OwnP w_58 (.slice pt n ct) gt n F) := OwnP.kq HOT gk
      clear gk
      refine hK.out _ _ (fun _ => S_60) ?_
      clear hK K
      try simp only [Act.put, List.setIfInBounds_toArray, List.set_cons_zero, List.set_cons_succ]
      refine AnyL.oneAt 4 rfl (by kernel_rfl) rfl ?_
      intro K hK
      go_simp
      refine (HSG (w_58) _ _ HO_62).mono ?_
      rintro e w_63 ⟨⟨yk, ym, yg, yx, yr⟩, rfl, hgy, gk⟩
      try unfold vv
      dsimp only
      have HGY : Hid (Ga ⟨yk, ym, yg, yx, yr⟩) := hgy
      clear hgy
      have K_64 : Hid (Kq w1 w_63) := Kq.trans K_59 gk
      have S_65 := HSX w_63 K_64
      have R_66 : Hid (Rw w_63 Z_52) := Rw.kq R_61 gk
      have HO_67 : Hid (OwnP w_63 (.slice pt n ct) gt n F) := OwnP.kq HO_62 gk
      clear gk
      refine hK.out _ _ (fun _ => S_65) ?_
      clear hK K
      try simp only [Act.put, List.setIfInBounds_toArray, List.set_cons_zero, List.set_cons_succ]
      obtain ⟨r0, r1, r2, r3, r4, rz⟩ := (show Rw w_63 Z_52 from R_66)
      refine AnyL.oneAt 6 rfl (by kernel_rfl) rfl ?_
      intro K hK
      go_simp
      refine hK.out _ _ (fun h => absurd rfl h) ?_
      clear hK K
      refine AnyL.done (by kernel_rfl) ?_
      have HV := rw_set (show Rw w_63 Z_52 from R_66) yk ym yg yx yr
      have HKF := s5_kq (show Kq w1 w_63 from K_64) hz_53 yk ym yg yx yr
      have hWF : s5 w_63 Z_52 yk ym yg yx yr = s5 w_63 Z_52 yk ym yg yx yr := rfl
      obtain ⟨WF, hWF⟩ : ∃ WF, WF = s5 w_63 Z_52 yk ym yg yx yr := ⟨_, rfl⟩
      rw [← hWF] at HV HKF
      unfold s5 at hWF
      rw [← hWF]
      clear hWF
      go_wp2_with fail
      go_meet
      exact ⟨Z_52, ⟨yk, ym, yg, yx, yr⟩, rfl, (⟨HKF, HV, HGY⟩ : _ ∧ _ ∧ _)⟩
  case rest =>
  obtain ⟨Z, ⟨yk, ym, yg, yx, yr⟩, rfl, HF⟩ := hcut
  clear HSG HK3
  obtain ⟨a0, a1, _⟩ := HSX wc (show Kq w1 wc ∧ _ from HF).1
  go_wp2_with fail
  refine ((show ∀ W, Kq w1 W → _ from HTH) wc (show Kq w1 wc ∧ _ from HF).1).mono ?_
  rintro e w5 ⟨v2, g2, rfl, ho2, _, _, k5⟩
  obtain ⟨pb, cb, rfl, _⟩ := ho2.sl
  obtain ⟨w6, hw6⟩ : ∃ w6, w6 = w5.alloc (.cells #[.slice pb n cb, .int .i64 T] 40) := ⟨_, rfl⟩
  have k6 : Kq w5 w6 := by rw [hw6]; exact kq_alloc _ _ _
  have x6 : w6.heap[w5.heap.size]? = some (.cells #[.slice pb n cb, .int .i64 T] 40 (0, 0)) := by rw [hw6]; exact alloc_new _ _
  have HO6 : Hid (OwnP w6 (.slice pb n cb) g2 n F) := ho2.kq k6
  have hF := (show Kq w1 wc ∧ Vc wc Z ⟨yk, ym, yg, yx, yr⟩ ∧ Ga ⟨yk, ym, yg, yx, yr⟩ from HF)
  have HK6 : Hid (Kq w1 w6) := hF.1.trans (k5.trans k6)
  have HZ6 : Hid (Vc w6 Z ⟨yk, ym, yg, yx, yr⟩) := (hF.2.1.kq k5).kq k6
  have HGY1 : Hid (Ga ⟨yk, ym, yg, yx, yr⟩) := hF.2.2
  have HX6 : Hid (∀ W, Kq w6 W → W.cell? ⟨w5.heap.size, 0, none⟩ = some (.slice pb n cb) ∧ W.cell? ⟨w5.heap.size, 1, none⟩ = some (.int .i64 T)) := (fun W q => ⟨q.cell (cell_of x6 rfl), q.cell (cell_of x6 rfl)⟩ : ∀ W, Kq w6 W → _)
  clear ho2 k5 a0 a1 k6 x6 hF HF
  go_upto_region 10 with fail
  rw [← hw6]
  clear hw6
  generalize w5.heap.size = X at HX6 ⊢
  have HSY : ∀ W', Kq w6 W' → W'.cell? ⟨X, 0, none⟩ = some (.slice pb n cb) ∧ W'.cell? ⟨X, 1, none⟩ = some (.int .i64 T) ∧ Vc W' (w.heap.size + 1) ⟨k, m, g, x, r⟩ := fun W' q => ⟨((show ∀ W, Kq w6 W → _ from HX6) W' q).1, ((show ∀ W, Kq w6 W → _ from HX6) W' q).2, (HSX W' (Kq.trans HK6 q)).2.2⟩
  go_cut [8] from 26 to 29 (fun s8 wx => ∃ (Z : Nat) (y : Vv), s8 = .pointer (some ⟨Z, 0, none⟩) ∧ Hid (Kq w6 wx ∧ Vc wx Z y ∧ Ga y))
  case first =>
    clear HUQ HGLT TBH HSX0 HTH HX6 HZ6 HGY1 HSX
    refine AnyL.region (S := fun W' : World => W'.cell? ⟨X, 0, none⟩ = some (.slice pb n cb) ∧ W'.cell? ⟨X, 1, none⟩ = some (.int .i64 T) ∧ Vc W' (w.heap.size + 1) ⟨k, m, g, x, r⟩) (z := 5) (by kernel_rfl) ?_
    obtain ⟨VD, hVD⟩ : ∃ VD, VD = w6.drew := ⟨_, rfl⟩
    rw [← hVD]
    have KD : Hid (Kq w6 VD) := by rw [hVD]; exact Kq.drew (Kq.refl _)
    have hS0 : (fun W' : World => W'.cell? ⟨X, 0, none⟩ = some (.slice pb n cb) ∧ W'.cell? ⟨X, 1, none⟩ = some (.int .i64 T) ∧ Vc W' (w.heap.size + 1) ⟨k, m, g, x, r⟩) VD := HSY VD KD
    have HOD : Hid (OwnP VD (.slice pb n cb) g2 n F) := OwnP.kq HO6 KD
    clear hVD
    refine AnyL.takeAt 0 (.agg #[.slice pb n cb, .int .i64 T]) rfl (by kernel_rfl) (by kernel_rfl) (by kernel_rfl) (by kernel_rfl) (fun _ _ _ h => h) rfl hS0 (by intro W hW; obtain ⟨q0, q1, ⟨q2, q3, q4, q5, q6⟩⟩ := hW; go_simp) ?_
    try simp only [Act.put, List.setIfInBounds_toArray, List.set_cons_zero, List.set_cons_succ]
    refine AnyL.takeAt 1 (.agg #[.int .i64 k, .int .i64 m, .float .f64 g, .string x, .int .i64 r]) rfl (by kernel_rfl) (by kernel_rfl) (by kernel_rfl) (by kernel_rfl) (fun _ _ _ h => h) rfl hS0 (by intro W hW; obtain ⟨q0, q1, ⟨q2, q3, q4, q5, q6⟩⟩ := hW; go_simp) ?_
    try simp only [Act.put, List.setIfInBounds_toArray, List.set_cons_zero, List.set_cons_succ]
    refine AnyL.two 2 4 rfl rfl (by kernel_rfl) rfl rfl ?_ ?_
    · intro K hK
      go_simp
      refine (HTV (VD)).mono ?_
      rintro e w_68 ⟨rfl, gk'⟩
      have gk : Kq _ w_68 := .of_grown gk'
      clear gk'
      have K_69 : Hid (Kq w6 w_68) := Kq.trans KD gk
      have S_70 := HSY w_68 K_69
      have HO_71 : Hid (OwnP w_68 (.slice pb n cb) g2 n F) := OwnP.kq HOD gk
      clear gk
      refine hK.out _ _ (fun _ => S_70) ?_
      clear hK K
      try simp only [Act.put, List.setIfInBounds_toArray, List.set_cons_zero, List.set_cons_succ]
      refine AnyL.two 3 4 rfl rfl (by kernel_rfl) rfl rfl ?_ ?_
      · intro K hK
        go_simp
        refine (HIG (w_68) _ _ HO_71).mono ?_
        rintro e w_72 ⟨⟨yk2, ym2, yg2, yx2, yr2⟩, rfl, hgy, gk⟩
        try unfold vv
        dsimp only
        have HGY : Hid (Ga ⟨yk2, ym2, yg2, yx2, yr2⟩) := hgy
        clear hgy
        have K_73 : Hid (Kq w6 w_72) := Kq.trans K_69 gk
        have S_74 := HSY w_72 K_73
        have HO_75 : Hid (OwnP w_72 (.slice pb n cb) g2 n F) := OwnP.kq HO_71 gk
        clear gk
        refine hK.out _ _ (fun _ => S_74) ?_
        clear hK K
        try simp only [Act.put, List.setIfInBounds_toArray, List.set_cons_zero, List.set_cons_succ]
        refine AnyL.oneAt 4 rfl (by kernel_rfl) rfl ?_
        intro K hK
        go_simp
        obtain ⟨Z_80, hZ⟩ : ∃ Z, Z = (w_72).heap.size := ⟨_, rfl⟩
        obtain ⟨w_76, hWn⟩ : ∃ Wn, Wn = ((w_72).alloc (.cells #[.int .i64 0, .int .i64 0, .float .f64 0, .string ⟨#[]⟩, .int .i64 0] 26)) := ⟨_, rfl⟩
        have gk : Kq (w_72) w_76 := by rw [hWn]; exact kq_alloc _ _ _
        have R_79 : Hid (Rw w_76 Z_80) := by rw [hWn, hZ]; exact Rw.new _ _
        have hz_81 : (w6).heap.size ≤ Z_80 := by rw [hZ]; exact (show Kq w6 (w_72) from K_73).size
        have K_77 : Hid (Kq w6 w_76) := Kq.trans K_73 gk
        have S_78 := HSY w_76 K_77
        have HO_82 : Hid (OwnP w_76 (.slice pb n cb) g2 n F) := OwnP.kq HO_75 gk
        have hWd : (w_72).alloc (.cells #[.int .i64 0, .int .i64 0, .float .f64 0, .string ⟨#[]⟩, .int .i64 0] 26) = w_76 := hWn.symm
        have hZd : (w_72).heap.size = Z_80 := hZ.symm
        try simp only [hWd]
        try rw [hWd]
        try rw [hZd]
        clear gk hWn hZ hWd hZd
        refine hK.out _ _ (fun _ => S_78) ?_
        clear hK K
        try simp only [Act.put, List.setIfInBounds_toArray, List.set_cons_zero, List.set_cons_succ]
        obtain ⟨r0, r1, r2, r3, r4, rz⟩ := (show Rw w_76 Z_80 from R_79)
        refine AnyL.oneAt 5 rfl (by kernel_rfl) rfl ?_
        intro K hK
        go_simp
        refine hK.out _ _ (fun h => absurd rfl h) ?_
        clear hK K
        refine AnyL.done (by kernel_rfl) ?_
        have HV := rw_set (show Rw w_76 Z_80 from R_79) yk2 ym2 yg2 yx2 yr2
        have HKF := s5_kq (show Kq w6 w_76 from K_77) hz_81 yk2 ym2 yg2 yx2 yr2
        have hWF : s5 w_76 Z_80 yk2 ym2 yg2 yx2 yr2 = s5 w_76 Z_80 yk2 ym2 yg2 yx2 yr2 := rfl
        obtain ⟨WF, hWF⟩ : ∃ WF, WF = s5 w_76 Z_80 yk2 ym2 yg2 yx2 yr2 := ⟨_, rfl⟩
        rw [← hWF] at HV HKF
        unfold s5 at hWF
        rw [← hWF]
        clear hWF
        go_wp2_with fail
        go_meet
        exact ⟨Z_80, ⟨yk2, ym2, yg2, yx2, yr2⟩, rfl, (⟨HKF, HV, HGY⟩ : _ ∧ _ ∧ _)⟩
      · intro K hK
        go_simp
        obtain ⟨Z_87, hZ⟩ : ∃ Z, Z = (w_68).heap.size := ⟨_, rfl⟩
        obtain ⟨w_83, hWn⟩ : ∃ Wn, Wn = ((w_68).alloc (.cells #[.int .i64 0, .int .i64 0, .float .f64 0, .string ⟨#[]⟩, .int .i64 0] 26)) := ⟨_, rfl⟩
        have gk : Kq (w_68) w_83 := by rw [hWn]; exact kq_alloc _ _ _
        have R_86 : Hid (Rw w_83 Z_87) := by rw [hWn, hZ]; exact Rw.new _ _
        have hz_88 : (w6).heap.size ≤ Z_87 := by rw [hZ]; exact (show Kq w6 (w_68) from K_69).size
        have K_84 : Hid (Kq w6 w_83) := Kq.trans K_69 gk
        have S_85 := HSY w_83 K_84
        have HO_89 : Hid (OwnP w_83 (.slice pb n cb) g2 n F) := OwnP.kq HO_71 gk
        have hWd : (w_68).alloc (.cells #[.int .i64 0, .int .i64 0, .float .f64 0, .string ⟨#[]⟩, .int .i64 0] 26) = w_83 := hWn.symm
        have hZd : (w_68).heap.size = Z_87 := hZ.symm
        try simp only [hWd]
        try rw [hWd]
        try rw [hZd]
        clear gk hWn hZ hWd hZd
        refine hK.out _ _ (fun _ => S_85) ?_
        clear hK K
        try simp only [Act.put, List.setIfInBounds_toArray, List.set_cons_zero, List.set_cons_succ]
        refine AnyL.oneAt 3 rfl (by kernel_rfl) rfl ?_
        intro K hK
        go_simp
        refine (HIG (w_83) _ _ HO_89).mono ?_
        rintro e w_90 ⟨⟨yk2, ym2, yg2, yx2, yr2⟩, rfl, hgy, gk⟩
        try unfold vv
        dsimp only
        have HGY : Hid (Ga ⟨yk2, ym2, yg2, yx2, yr2⟩) := hgy
        clear hgy
        have K_91 : Hid (Kq w6 w_90) := Kq.trans K_84 gk
        have S_92 := HSY w_90 K_91
        have R_93 : Hid (Rw w_90 Z_87) := Rw.kq R_86 gk
        have HO_94 : Hid (OwnP w_90 (.slice pb n cb) g2 n F) := OwnP.kq HO_89 gk
        clear gk
        refine hK.out _ _ (fun _ => S_92) ?_
        clear hK K
        try simp only [Act.put, List.setIfInBounds_toArray, List.set_cons_zero, List.set_cons_succ]
        obtain ⟨r0, r1, r2, r3, r4, rz⟩ := (show Rw w_90 Z_87 from R_93)
        refine AnyL.oneAt 5 rfl (by kernel_rfl) rfl ?_
        intro K hK
        go_simp
        refine hK.out _ _ (fun h => absurd rfl h) ?_
        clear hK K
        refine AnyL.done (by kernel_rfl) ?_
        have HV := rw_set (show Rw w_90 Z_87 from R_93) yk2 ym2 yg2 yx2 yr2
        have HKF := s5_kq (show Kq w6 w_90 from K_91) hz_88 yk2 ym2 yg2 yx2 yr2
        have hWF : s5 w_90 Z_87 yk2 ym2 yg2 yx2 yr2 = s5 w_90 Z_87 yk2 ym2 yg2 yx2 yr2 := rfl
        obtain ⟨WF, hWF⟩ : ∃ WF, WF = s5 w_90 Z_87 yk2 ym2 yg2 yx2 yr2 := ⟨_, rfl⟩
        rw [← hWF] at HV HKF
        unfold s5 at hWF
        rw [← hWF]
        clear hWF
        go_wp2_with fail
        go_meet
        exact ⟨Z_87, ⟨yk2, ym2, yg2, yx2, yr2⟩, rfl, (⟨HKF, HV, HGY⟩ : _ ∧ _ ∧ _)⟩
    · intro K hK
      go_simp
      obtain ⟨Z_99, hZ⟩ : ∃ Z, Z = (VD).heap.size := ⟨_, rfl⟩
      obtain ⟨w_95, hWn⟩ : ∃ Wn, Wn = ((VD).alloc (.cells #[.int .i64 0, .int .i64 0, .float .f64 0, .string ⟨#[]⟩, .int .i64 0] 26)) := ⟨_, rfl⟩
      have gk : Kq (VD) w_95 := by rw [hWn]; exact kq_alloc _ _ _
      have R_98 : Hid (Rw w_95 Z_99) := by rw [hWn, hZ]; exact Rw.new _ _
      have hz_100 : (w6).heap.size ≤ Z_99 := by rw [hZ]; exact (show Kq w6 (VD) from KD).size
      have K_96 : Hid (Kq w6 w_95) := Kq.trans KD gk
      have S_97 := HSY w_95 K_96
      have HO_101 : Hid (OwnP w_95 (.slice pb n cb) g2 n F) := OwnP.kq HOD gk
      have hWd : (VD).alloc (.cells #[.int .i64 0, .int .i64 0, .float .f64 0, .string ⟨#[]⟩, .int .i64 0] 26) = w_95 := hWn.symm
      have hZd : (VD).heap.size = Z_99 := hZ.symm
      try simp only [hWd]
      try rw [hWd]
      try rw [hZd]
      clear gk hWn hZ hWd hZd
      refine hK.out _ _ (fun _ => S_97) ?_
      clear hK K
      try simp only [Act.put, List.setIfInBounds_toArray, List.set_cons_zero, List.set_cons_succ]
      refine AnyL.oneAt 2 rfl (by kernel_rfl) rfl ?_
      intro K hK
      go_simp
      refine (HTV (w_95)).mono ?_
      rintro e w_102 ⟨rfl, gk'⟩
      have gk : Kq _ w_102 := .of_grown gk'
      clear gk'
      have K_103 : Hid (Kq w6 w_102) := Kq.trans K_96 gk
      have S_104 := HSY w_102 K_103
      have R_105 : Hid (Rw w_102 Z_99) := Rw.kq R_98 gk
      have HO_106 : Hid (OwnP w_102 (.slice pb n cb) g2 n F) := OwnP.kq HO_101 gk
      clear gk
      refine hK.out _ _ (fun _ => S_104) ?_
      clear hK K
      try simp only [Act.put, List.setIfInBounds_toArray, List.set_cons_zero, List.set_cons_succ]
      refine AnyL.oneAt 3 rfl (by kernel_rfl) rfl ?_
      intro K hK
      go_simp
      refine (HIG (w_102) _ _ HO_106).mono ?_
      rintro e w_107 ⟨⟨yk2, ym2, yg2, yx2, yr2⟩, rfl, hgy, gk⟩
      try unfold vv
      dsimp only
      have HGY : Hid (Ga ⟨yk2, ym2, yg2, yx2, yr2⟩) := hgy
      clear hgy
      have K_108 : Hid (Kq w6 w_107) := Kq.trans K_103 gk
      have S_109 := HSY w_107 K_108
      have R_110 : Hid (Rw w_107 Z_99) := Rw.kq R_105 gk
      have HO_111 : Hid (OwnP w_107 (.slice pb n cb) g2 n F) := OwnP.kq HO_106 gk
      clear gk
      refine hK.out _ _ (fun _ => S_109) ?_
      clear hK K
      try simp only [Act.put, List.setIfInBounds_toArray, List.set_cons_zero, List.set_cons_succ]
      obtain ⟨r0, r1, r2, r3, r4, rz⟩ := (show Rw w_107 Z_99 from R_110)
      refine AnyL.oneAt 5 rfl (by kernel_rfl) rfl ?_
      intro K hK
      go_simp
      refine hK.out _ _ (fun h => absurd rfl h) ?_
      clear hK K
      refine AnyL.done (by kernel_rfl) ?_
      have HV := rw_set (show Rw w_107 Z_99 from R_110) yk2 ym2 yg2 yx2 yr2
      have HKF := s5_kq (show Kq w6 w_107 from K_108) hz_100 yk2 ym2 yg2 yx2 yr2
      have hWF : s5 w_107 Z_99 yk2 ym2 yg2 yx2 yr2 = s5 w_107 Z_99 yk2 ym2 yg2 yx2 yr2 := rfl
      obtain ⟨WF, hWF⟩ : ∃ WF, WF = s5 w_107 Z_99 yk2 ym2 yg2 yx2 yr2 := ⟨_, rfl⟩
      rw [← hWF] at HV HKF
      unfold s5 at hWF
      rw [← hWF]
      clear hWF
      go_wp2_with fail
      go_meet
      exact ⟨Z_99, ⟨yk2, ym2, yg2, yx2, yr2⟩, rfl, (⟨HKF, HV, HGY⟩ : _ ∧ _ ∧ _)⟩
  case rest =>
  obtain ⟨Z2, y2, rfl, HF2⟩ := hcut
  have hF2 := (show Kq w6 wc ∧ Vc wc Z2 y2 ∧ Ga y2 from HF2)
  obtain rfl : y2 = ⟨yk, ym, yg, yx, yr⟩ := (show ∀ y z, Ga y → Ga z → y = z from HUQ) _ _ hF2.2.2 HGY1
  have HEQ := fun w => eq_val ⟨yk, ym, yg, yx, yr⟩ ((show ∀ y, Ga y → _ from HGLT) _ HGY1) w
  unfold vv at HEQ
  dsimp only at HEQ
  obtain ⟨c0, c1, c2, c3, c4⟩ := (show Vc w6 Z ⟨yk, ym, yg, yx, yr⟩ from HZ6).kq hF2.1
  obtain ⟨d0, d1, d2, d3, d4⟩ := hF2.2.1
  dsimp only at c0 c1 c2 c3 c4 d0 d1 d2 d3 d4
  have HKC : Hid (Kq w6 wc) := hF2.1
  clear hF2 HF2 HIG HGLT HUQ HGY1 HZ6 HTV
  go_wp2_with fail
  refine (HEQ _).mono ?_
  rintro e w7 ⟨rfl, g7⟩
  have HK67 : Hid (Kq w6 w7) := Kq.trans HKC (.of_grown g7)
  have HK7 : Hid (Kq w1 w7) := Kq.trans HK6 HK67
  clear g7 HEQ c0 c1 c2 c3 c4 d0 d1 d2 d3 d4 HKC
  have HSS : Hid (∀ W', Kq w7 W' → W'.cell? ⟨w.heap.size, 0, none⟩ = some (.slice pa n ca) ∧ W'.cell? ⟨w.heap.size, 1, none⟩ = some (.int .i64 T) ∧ W'.cell? ⟨X, 0, none⟩ = some (.slice pb n cb) ∧ W'.cell? ⟨X, 1, none⟩ = some (.int .i64 T)) := (fun W' q => ⟨(HSX W' (Kq.trans HK7 q)).1, (HSX W' (Kq.trans HK7 q)).2.1, ((show ∀ W, Kq w6 W → _ from HX6) W' (Kq.trans HK67 q)).1, ((show ∀ W, Kq w6 W → _ from HX6) W' (Kq.trans HK67 q)).2⟩ : ∀ W', Kq w7 W' → _)
  clear HX6 HSY HSX HSX0
  go_wp2_with fail
  refine AnyL.region (S := fun W' : World => W'.cell? ⟨w.heap.size, 0, none⟩ = some (.slice pa n ca) ∧ W'.cell? ⟨w.heap.size, 1, none⟩ = some (.int .i64 T) ∧ W'.cell? ⟨X, 0, none⟩ = some (.slice pb n cb) ∧ W'.cell? ⟨X, 1, none⟩ = some (.int .i64 T)) (z := 99) (by kernel_rfl) ?_
  have hS0 : (fun W' : World => W'.cell? ⟨w.heap.size, 0, none⟩ = some (.slice pa n ca) ∧ W'.cell? ⟨w.heap.size, 1, none⟩ = some (.int .i64 T) ∧ W'.cell? ⟨X, 0, none⟩ = some (.slice pb n cb) ∧ W'.cell? ⟨X, 1, none⟩ = some (.int .i64 T)) w7.drew := (show ∀ W', Kq w7 W' → W'.cell? ⟨w.heap.size, 0, none⟩ = some (.slice pa n ca) ∧ W'.cell? ⟨w.heap.size, 1, none⟩ = some (.int .i64 T) ∧ W'.cell? ⟨X, 0, none⟩ = some (.slice pb n cb) ∧ W'.cell? ⟨X, 1, none⟩ = some (.int .i64 T) from HSS) w7.drew (Kq.drew (Kq.refl _))
  refine AnyL.takeAt 0 (.agg #[.slice pb n cb, .int .i64 T]) rfl (by kernel_rfl) (by kernel_rfl) (by kernel_rfl) (by kernel_rfl) (fun _ _ _ h => h) rfl hS0 (by intro W hW; obtain ⟨q0, q1, q2, q3⟩ := hW; go_simp) ?_
  try simp only [Act.put, List.setIfInBounds_toArray, List.set_cons_zero, List.set_cons_succ]
  refine AnyL.takeAt 1 (.agg #[.slice pa n ca, .int .i64 T]) rfl (by kernel_rfl) (by kernel_rfl) (by kernel_rfl) (by kernel_rfl) (fun _ _ _ h => h) rfl hS0 (by intro W hW; obtain ⟨q0, q1, q2, q3⟩ := hW; go_simp) ?_
  try simp only [Act.put, List.setIfInBounds_toArray, List.set_cons_zero, List.set_cons_succ]
  refine AnyL.oneAt 2 rfl (by kernel_rfl) rfl ?_
  intro K hK
  go_simp
  refine ((show ∀ W, Kq w1 W → _ from HTH) w7.drew (Kq.drew HK7)).mono ?_
  rintro e w8 ⟨v3, g3, rfl, ho3, _, _, k8⟩
  have K8 : Hid (Kq w7 w8) := Kq.trans (Kq.drew (Kq.refl _)) k8
  have hS8 := (show ∀ W', Kq w7 W' → W'.cell? ⟨w.heap.size, 0, none⟩ = some (.slice pa n ca) ∧ W'.cell? ⟨w.heap.size, 1, none⟩ = some (.int .i64 T) ∧ W'.cell? ⟨X, 0, none⟩ = some (.slice pb n cb) ∧ W'.cell? ⟨X, 1, none⟩ = some (.int .i64 T) from HSS) w8 K8
  have HE : Hid (Calls Try.prog 18 #[.agg #[.slice pb n cb, .int .i64 T], .agg #[v3, .int .i64 T]] w8 fun e w' => e = .returned (.bool true) ∧ Kq w8 w') := eq_table T w8 (OwnP.kq HO6 (Kq.trans HK67 K8)) ho3 (show Tb n F from TBH).len (fun i hi => ⟨((show Tb n F from TBH).a i hi).g, ((show Tb n F from TBH).b i hi).g⟩)
  obtain ⟨p3, c3, rfl, _⟩ := ho3.sl
  clear k8 ho3
  refine hK.out _ _ (fun _ => hS8) ?_
  clear hK K
  try simp only [Act.put, List.setIfInBounds_toArray, List.set_cons_zero, List.set_cons_succ]
  refine AnyL.oneAt 3 rfl (by kernel_rfl) rfl ?_
  intro K hK
  go_simp
  refine (show Calls Try.prog 18 #[.agg #[.slice pb n cb, .int .i64 T], .agg #[.slice p3 n c3, .int .i64 T]] w8 _ from HE).mono ?_
  rintro e w9 ⟨rfl, k9⟩
  have hS9 := (show ∀ W', Kq w7 W' → W'.cell? ⟨w.heap.size, 0, none⟩ = some (.slice pa n ca) ∧ W'.cell? ⟨w.heap.size, 1, none⟩ = some (.int .i64 T) ∧ W'.cell? ⟨X, 0, none⟩ = some (.slice pb n cb) ∧ W'.cell? ⟨X, 1, none⟩ = some (.int .i64 T) from HSS) w9 (Kq.trans K8 k9)
  have KE : Hid (Kq w w9) := Kq.trans HK (Kq.trans HK7 (Kq.trans K8 k9))
  clear k9
  refine hK.out _ _ (fun _ => hS9) ?_
  clear hK K
  try simp only [Act.put, List.setIfInBounds_toArray, List.set_cons_zero, List.set_cons_succ]
  refine AnyL.takeAt 4 (.bool false) rfl (by kernel_rfl) (by kernel_rfl) (by kernel_rfl) (by kernel_rfl) (fun _ _ _ h => h) rfl hS9 (by intro W hW; go_simp) ?_
  try simp only [Act.put, List.setIfInBounds_toArray, List.set_cons_zero, List.set_cons_succ]
  refine AnyL.done (by kernel_rfl) ?_
  clear hS0 hS8 hS9 HSS HE HTH TBH HO6 HK7 HK67 K8
  go_wp2_with fail
  go_ret
  exact ⟨rfl, KE⟩
end Go.Proofs.Ytfpidccjcemcjaa
