import Derived.Test.YtfpidccjcemcjaaUho
import Derived.Test.YtfpidccjcemcjaaUaf
import Derived.Deep.Cut
import Derived.Test.YtfpidccjcemcjaaUcd
import Derived.Test.YtfpidccjcemcjaaUbd
import Derived.Deep.CutRange
import Derived.Deep.AppendLies
import Derived.Deep.RegionHeldLaw
import Derived.Deep.RegionLaw
namespace Go.Proofs.Ytfpidccjcemcjaa
open Go.ChangeShapes Go.WideShapes Go.ChangeAt Go.RowKit
set_option linter.unusedVariables false
set_option maxRecDepth 100000
theorem Rw.two {w : World} {c : Array Value} {t t2 : TypeId} {w2 : World} (h : w2 = (w.alloc (.cells c t)).alloc (.cells #[.int .i64 0, .int .i64 0, .float .f64 0, .string ⟨#[]⟩, .int .i64 0] t2)) : Rw w2 (w.heap.size + 1) := by
  have q := Rw.new (w.alloc (.cells c t)) t2
  rw [World.size_alloc] at q
  rw [h]; exact q
set_option maxHeartbeats 8000000 in
theorem im_get0 {w : World} {B M n : Nat} {F : Nat → Pv} {v : Value} {T : Int} (u : Vv) (hu : kok u) (W : World) (hL : Lg w B M (lsp F n) v T W) (ht : tok n F T) : Calls Try.prog 46 #[.pointer (some ⟨B, 0, none⟩), vv u] W fun e w' => ∃ y, e = .returned (vv y) ∧ Gt n F u y ∧ Kq W w' := by
  have HF : Hid (∀ W', Kq W W' → Calls Try.prog 69 #[.pointer (some ⟨B, 0, none⟩), vv u] W' fun e w' => ∃ (r : Nat) (ok : Bool), e = .returned (.tuple #[.int .i64 (r : Int), .bool ok]) ∧ Fd n F u r ok ∧ Kq W' w') := (fun W' q => im_find u hu W' (hL.on q) ht : ∀ W', Kq W W' → _)
  obtain ⟨gg, hO, hg⟩ := own_pairs hL.row
  obtain ⟨ad, ca, rfl, hsl⟩ := hO.sl
  have hnI : (n : Int) ≤ 500 := by have := ht.1; omega
  have HX : Hid ((0 < n → ad = some ⟨gg, 0, none⟩ ∧ n ≤ ca) ∧ (∀ i, i < n → Cp W ⟨gg, i * 11, none⟩ (F i)) ∧ W.cell? ⟨B, 0, none⟩ = some (.slice ad n ca)) := (⟨hsl, hO.ce, cell_of hL.ob rfl⟩ : _ ∧ _ ∧ _)
  have HGT : Hid (∀ y, ((y = vz ∧ ∀ j, j < n → ¬ mk (F j).a = mk u) ∨ ∃ j, j < n ∧ mk (F j).a = mk u ∧ y = (F j).b) → Gt n F u y) := (fun y h => h : ∀ y, _)
  have HFD : Hid (∀ r ok, Fd n F u r ok → ((ok = false ∧ ∀ j, j < n → ¬ mk (F j).a = mk u) ∨ (ok = true ∧ r < n ∧ mk (F r).a = mk u))) := (fun r ok h => h : ∀ r ok, _)
  clear hL hO hg hsl ht hu
  generalize Fd n F u = Fu at HF HFD
  generalize Gt n F u = Gu at HGT ⊢
  generalize mk u = mu at HGT HFD
  obtain ⟨k, m, g, x, r⟩ := u
  unfold vv at HF ⊢
  dsimp only at HF ⊢
  obtain ⟨w2, hw2⟩ : ∃ w2, w2 = (W.alloc (.cells #[.int .i64 k, .int .i64 m, .float .f64 g, .string x, .int .i64 r] 26)).alloc (.cells #[.int .i64 0, .int .i64 0, .float .f64 0, .string ⟨#[]⟩, .int .i64 0] 26) := ⟨_, rfl⟩
  obtain ⟨x0, x1, z2, k2⟩ := two_new W _ _ _ _ w2 hw2
  have rf2 := Rw.two hw2
  have HX2 : Hid (Kq W w2 ∧ Rw w2 (W.heap.size + 1)) := (⟨k2, rf2⟩ : _ ∧ _)
  have HF2 : Hid (Calls Try.prog 69 #[.pointer (some ⟨B, 0, none⟩), .agg #[.int .i64 k, .int .i64 m, .float .f64 g, .string x, .int .i64 r]] w2 fun e w' => ∃ (r : Nat) (ok : Bool), e = .returned (.tuple #[.int .i64 (r : Int), .bool ok]) ∧ Fu r ok ∧ Kq w2 w') := (show ∀ W', Kq W W' → _ from HF) w2 k2
  clear x0 x1 z2 k2 rf2 HF
  have hst : ∀ (a : Addr) (n : Nat) (m : Mode) (w : World), (store a (.float .f64 n) m).run Try.prog w = stored Try.prog w a (.float .f64 n) m := fun a n m w => run_store _ _ _ _ _ rfl
  go_enter Try.func46, Try.ntmps46
  go_wp2_with fail
  rw [← hw2]
  clear hw2
  refine (show Calls Try.prog 69 #[.pointer (some ⟨B, 0, none⟩), .agg #[.int .i64 k, .int .i64 m, .float .f64 g, .string x, .int .i64 r]] w2 _ from HF2).mono ?_
  rintro e w3 ⟨j, ok, rfl, hfd, k3⟩
  have hX2 := (show Kq W w2 ∧ Rw w2 (W.heap.size + 1) from HX2)
  have GK : Hid (Kq W w3) := hX2.1.trans k3
  have RF : Hid (Rw w3 (W.heap.size + 1)) := hX2.2.kq k3
  obtain ⟨u0, u1, u2, u3, u4, uz⟩ := (show Rw w3 (W.heap.size + 1) from RF)
  have hX := (show (0 < n → ad = some ⟨gg, 0, none⟩ ∧ n ≤ ca) ∧ (∀ i, i < n → Cp W ⟨gg, i * 11, none⟩ (F i)) ∧ W.cell? ⟨B, 0, none⟩ = some (.slice ad n ca) from HX)
  rcases (show ∀ r ok, Fu r ok → _ from HFD) j ok hfd with ⟨rfl, hno⟩ | ⟨rfl, hj, hm⟩
  · have HE : Hid (Gu ⟨0, 0, 0, ⟨#[]⟩, 0⟩) := (show ∀ y, _ → Gu y from HGT) _ (.inl ⟨rfl, hno⟩)
    clear hX2 HX2 hX HX HGT HFD HF2 hfd hno k3
    go_wp2_with fail
    obtain ⟨e0, e1, e2, e3, e4⟩ := rw_set (show Rw w3 (W.heap.size + 1) from RF) 0 0 0 ⟨#[]⟩ 0
    have GG : Hid (Kq W (s5 w3 (W.heap.size + 1) 0 0 0 ⟨#[]⟩ 0)) := s5_kq GK (by omega) 0 0 0 ⟨#[]⟩ 0
    obtain ⟨WF, hWF⟩ : ∃ WF, WF = s5 w3 (W.heap.size + 1) 0 0 0 ⟨#[]⟩ 0 := ⟨_, rfl⟩
    rw [← hWF] at e0 e1 e2 e3 e4 GG
    have hWF' := hWF
    unfold s5 at hWF'
    rw [← hWF']
    clear hWF hWF'
    dsimp only at e0 e1 e2 e3 e4
    refine bodyPost_ret (by simp [results, Try.results46, go_sem, e0, e1, e2, e3, e4]; rfl) rfl ?_
    exact ⟨⟨0, 0, 0, ⟨#[]⟩, 0⟩, rfl, HE, GG⟩
  · have HE : Hid (Gu (F j).b) := (show ∀ y, _ → Gu y from HGT) _ (.inr ⟨j, hj, hm, rfl⟩)
    obtain ⟨rfl, hca⟩ := hX.1 (by omega)
    have b0 := (show Kq W w3 from GK).cell hX.2.2
    obtain ⟨d0, d1, d2, d3, d4, d5, d6, d7, d8, d9, d10⟩ := (hX.2.1 j hj).kq (show Kq W w3 from GK)
    have hjI : (j : Int) < (n : Int) := by omega
    clear hX2 HX2 hX HX HGT HFD HF2 hfd hm k3
    generalize F j = p at HE d0 d1 d2 d3 d4 d5 d6 d7 d8 d9 d10
    obtain ⟨pa, ⟨yk, ym, yg, yx, yr⟩, pt⟩ := p
    dsimp only at HE d0 d1 d2 d3 d4 d5 d6 d7 d8 d9 d10
    go_wp2_with fail
    clear d0 d1 d2 d3 d4 d5 d6 d7 d8 d9 d10 u0 u1 u2 u3 u4 uz b0
    obtain ⟨e0, e1, e2, e3, e4⟩ := rw_set (show Rw w3 (W.heap.size + 1) from RF) yk ym yg yx yr
    have GG : Hid (Kq W (s5 w3 (W.heap.size + 1) yk ym yg yx yr)) := s5_kq GK (by omega) yk ym yg yx yr
    obtain ⟨WF, hWF⟩ : ∃ WF, WF = s5 w3 (W.heap.size + 1) yk ym yg yx yr := ⟨_, rfl⟩
    rw [← hWF] at e0 e1 e2 e3 e4 GG
    have hWF' := hWF
    unfold s5 at hWF'
    rw [← hWF']
    clear hWF hWF'
    dsimp only at e0 e1 e2 e3 e4
    refine bodyPost_ret (by simp [results, Try.results46, go_sem, e0, e1, e2, e3, e4]; rfl) rfl ?_
    exact ⟨⟨yk, ym, yg, yx, yr⟩, rfl, HE, GG⟩
theorem Rw.three {w : World} {c d : Array Value} {t t2 t3 : TypeId} {w2 : World} (h : w2 = ((w.alloc (.cells c t)).alloc (.cells d t2)).alloc (.cells #[.int .i64 0, .int .i64 0, .float .f64 0, .string ⟨#[]⟩, .int .i64 0] t3)) : Rw w2 (w.heap.size + 2) := by
  have q := Rw.new ((w.alloc (.cells c t)).alloc (.cells d t2)) t3
  rw [World.size_alloc, World.size_alloc] at q
  rw [h]; exact q
set_option maxHeartbeats 8000000 in
theorem im_get {v : Value} {g0 n : Nat} {F : Nat → Pv} (T : Int) (ky : Vv) (c : Int) (u : Vv) (hy : Ky ky c u) (kb : Vb ky) (hxk : (ky.x.size : Int) ≤ 1048576) (w : World) (ha : OwnP w v g0 n F) (tb : Tb n F) : Calls Try.prog 20 #[.agg #[v, .int .i64 T], vv ky] w fun e w' => ∃ y, e = .returned (vv y) ∧ GtA n F T c u y ∧ Kq w w' := by
  obtain ⟨pa, ca, rfl, ha2⟩ := ha.sl
  have HKEY := fun w => im_key hy hxk kb.g w
  have HGO : Hid (c = 0 → tok n F T → ∀ B M v' W0 W, Lg W0 B M (lsp F n) v' T W → Calls Try.prog 46 #[.pointer (some ⟨B, 0, none⟩), vv u] W fun e w' => ∃ y, e = .returned (vv y) ∧ Gt n F u y ∧ Kq W w') := (fun hc ht B M v' W0 W hl => im_get0 u (ky_key (by rw [← hc]; exact hy)) W hl ht : c = 0 → tok n F T → _)
  have HGA : Hid ((∀ y, (¬ (tok n F T ∧ c = 0) ∧ y = vz) → GtA n F T c u y) ∧ (∀ y, tok n F T → c = 0 → Gt n F u y → GtA n F T c u y)) := (⟨fun y h => .inl h, fun y h1 h2 h3 => .inr ⟨h1, h2, h3⟩⟩ : _ ∧ _)
  generalize GtA n F T c u = Ga at HGA ⊢
  generalize Gt n F u = Gu at HGA HGO
  obtain ⟨uk, um, ug, ux, ur⟩ := u
  obtain ⟨k, m, g, x, r⟩ := ky
  unfold vv at HKEY HGO ⊢
  unfold va at HKEY
  dsimp only at HKEY HGO ⊢
  obtain ⟨w3, hw3⟩ : ∃ w3, w3 = ((w.alloc (.cells #[.slice pa n ca, .int .i64 T] 40)).alloc (.cells #[.int .i64 k, .int .i64 m, .float .f64 g, .string x, .int .i64 r] 26)).alloc (.cells #[.int .i64 0, .int .i64 0, .float .f64 0, .string ⟨#[]⟩, .int .i64 0] 26) := ⟨_, rfl⟩
  obtain ⟨x0, x1, x2, z3, k3⟩ := three_new w _ _ _ _ _ _ w3 hw3
  have rf3 := Rw.three hw3
  have HLO : Hid (Calls Try.prog 43 #[.agg #[.slice pa n ca, .int .i64 T]] w3 fun e w' => LO w3 n F T e w') := im_ledger T w3 (ha.kq k3) tb
  have HX : Hid (Kq w w3 ∧ Rw w3 (w.heap.size + 2) ∧ w3.heap[w.heap.size + 1]? = some (.cells #[.int .i64 k, .int .i64 m, .float .f64 g, .string x, .int .i64 r] 26 (0, 0)) ∧ w3.heap.size = w.heap.size + 3) := (⟨k3, rf3, x1, z3⟩ : _ ∧ _ ∧ _ ∧ _)
  clear x0 x1 x2 z3 k3 rf3 ha2 ha tb hy kb hxk
  have hst : ∀ (a : Addr) (n : Nat) (m : Mode) (w : World), (store a (.float .f64 n) m).run Try.prog w = stored Try.prog w a (.float .f64 n) m := fun a n m w => run_store _ _ _ _ _ rfl
  go_enter Try.func20, Try.ntmps20
  go_wp2_with fail
  rw [← hw3]
  clear hw3
  refine (show Calls Try.prog 43 #[.agg #[.slice pa n ca, .int .i64 T]] w3 _ from HLO).mono ?_
  intro e w4 h4
  have hX := (show Kq w w3 ∧ Rw w3 (w.heap.size + 2) ∧ w3.heap[w.heap.size + 1]? = some (.cells #[.int .i64 k, .int .i64 m, .float .f64 g, .string x, .int .i64 r] 26 (0, 0)) ∧ w3.heap.size = w.heap.size + 3 from HX)
  have k34 : Kq w3 w4 := by
    rcases h4 with ⟨_, _, k4⟩ | ⟨_, B, M, v', _, l4⟩
    · exact k4
    · exact l4.kq
  have v0 := k34.cell (cell_of hX.2.2.1 (j := 0) rfl)
  have v1 := k34.cell (cell_of hX.2.2.1 (j := 1) rfl)
  have v2 := k34.cell (cell_of hX.2.2.1 (j := 2) rfl)
  have v3 := k34.cell (cell_of hX.2.2.1 (j := 3) rfl)
  have v4 := k34.cell (cell_of hX.2.2.1 (j := 4) rfl)
  obtain ⟨okb, pl, hpl, HCASE⟩ : ∃ (okb : Bool) (pl : Value), e = .returned (.tuple #[pl, .bool okb]) ∧ ((okb = false ∧ ¬ tok n F T ∧ pl = .pointer none) ∨ (okb = true ∧ tok n F T ∧ ∃ B M v', pl = .pointer (some ⟨B, 0, none⟩) ∧ Lg w3 B M (lsp F n) v' T w4)) := by
    rcases h4 with ⟨ht, he, k4⟩ | ⟨ht, B, M, v', he, l4⟩
    · exact ⟨false, _, he, .inl ⟨rfl, ht, rfl⟩⟩
    · exact ⟨true, _, he, .inr ⟨rfl, ht, B, M, v', rfl, l4⟩⟩
  subst hpl
  have HC : Hid ((okb = false ∧ ¬ tok n F T ∧ pl = .pointer none) ∨ (okb = true ∧ tok n F T ∧ ∃ B M v', pl = .pointer (some ⟨B, 0, none⟩) ∧ Lg w3 B M (lsp F n) v' T w4)) := HCASE
  have GK4 : Hid (Kq w w4 ∧ Kq w3 w4) := (⟨hX.1.trans k34, k34⟩ : _ ∧ _)
  clear h4 HLO hX k34 HCASE
  go_upto_region 2 with fail
  go_wp2_with fail
  refine (HKEY _).mono ?_
  rintro e w5 ⟨rfl, k5⟩
  clear v0 v1 v2 v3 v4
  go_upto_region 3 with fail
  have ga : Kq w5 (w5.alloc (.cells #[.int .i64 c, .int .i64 uk, .int .i64 um, .float .f64 ug, .string ux, .int .i64 ur] 28)) := kq_alloc _ _ _
  have hX := (show Kq w w3 ∧ Rw w3 (w.heap.size + 2) ∧ _ ∧ w3.heap.size = w.heap.size + 3 from HX)
  have hG4 := (show Kq w w4 ∧ Kq w3 w4 from GK4)
  have k46 : Kq w4 (w5.alloc (.cells #[.int .i64 c, .int .i64 uk, .int .i64 um, .float .f64 ug, .string ux, .int .i64 ur] 28)) := k5.trans ga
  have HA6 : Hid (Ac (w5.alloc (.cells #[.int .i64 c, .int .i64 uk, .int .i64 um, .float .f64 ug, .string ux, .int .i64 ur] 28)) w5.heap.size c ⟨uk, um, ug, ux, ur⟩) := Ac.new _ _ _ _ _ _ _ _
  have HRF : Hid (Rw (w5.alloc (.cells #[.int .i64 c, .int .i64 uk, .int .i64 um, .float .f64 ug, .string ux, .int .i64 ur] 28)) (w.heap.size + 2)) := (hX.2.1.kq hG4.2).kq k46
  have HGK : Hid (Kq w (w5.alloc (.cells #[.int .i64 c, .int .i64 uk, .int .i64 um, .float .f64 ug, .string ux, .int .i64 ur] 28))) := hG4.1.trans k46
  have HK46 : Hid (Kq w4 (w5.alloc (.cells #[.int .i64 c, .int .i64 uk, .int .i64 um, .float .f64 ug, .string ux, .int .i64 ur] 28))) := k46
  have hz2 : w.heap.size + 2 < w5.heap.size := by have h1 := hX.2.2.2; have h2 := hG4.2.size; have h3 := k5.size; omega
  clear ga hX hG4 k46 k5 HX GK4 HKEY
  generalize w5.alloc (.cells #[.int .i64 c, .int .i64 uk, .int .i64 um, .float .f64 ug, .string ux, .int .i64 ur] 28) = w6 at HA6 HRF HGK HK46 ⊢
  generalize w5.heap.size = VB at HA6 hz2 ⊢
  obtain ⟨a0, a1, a2, a3, a4, a5⟩ := (show Ac w6 VB c ⟨uk, um, ug, ux, ur⟩ from HA6)
  dsimp only at a0 a1 a2 a3 a4 a5
  have GK : Hid (Kq w w6) := HGK
  have RF : Hid (Rw w6 (w.heap.size + 2)) := HRF
  obtain ⟨u0, u1, u2, u3, u4, uz⟩ := (show Rw w6 (w.heap.size + 2) from RF)
  rcases (show (okb = false ∧ ¬ tok n F T ∧ pl = .pointer none) ∨ (okb = true ∧ tok n F T ∧ ∃ B M v', pl = .pointer (some ⟨B, 0, none⟩) ∧ Lg w3 B M (lsp F n) v' T w4) from HC) with ⟨rfl, ht, rfl⟩ | ⟨rfl, ht, B, M, v', rfl, l4⟩
  · have HE : Hid (Ga ⟨0, 0, 0, ⟨#[]⟩, 0⟩) := (show (∀ y, _ → Ga y) ∧ _ from HGA).1 _ ⟨fun h => ht h.1, rfl⟩
    clear HC HGA HGO ht HA6 HRF HGK HK46
    go_wp2_with fail
    obtain ⟨e0, e1, e2, e3, e4⟩ := rw_set (show Rw w6 (w.heap.size + 2) from RF) 0 0 0 ⟨#[]⟩ 0
    have GG : Hid (Kq w (s5 w6 (w.heap.size + 2) 0 0 0 ⟨#[]⟩ 0)) := s5_kq GK (by omega) 0 0 0 ⟨#[]⟩ 0
    obtain ⟨WF, hWF⟩ : ∃ WF, WF = s5 w6 (w.heap.size + 2) 0 0 0 ⟨#[]⟩ 0 := ⟨_, rfl⟩
    rw [← hWF] at e0 e1 e2 e3 e4 GG
    have hWF' := hWF
    unfold s5 at hWF'
    rw [← hWF']
    clear hWF hWF'
    dsimp only at e0 e1 e2 e3 e4
    refine bodyPost_ret (by simp [results, Try.results20, go_sem, e0, e1, e2, e3, e4]; rfl) rfl ?_
    exact ⟨⟨0, 0, 0, ⟨#[]⟩, 0⟩, rfl, HE, GG⟩
  · by_cases hc : c = 0
    case neg =>
      have HE : Hid (Ga ⟨0, 0, 0, ⟨#[]⟩, 0⟩) := (show (∀ y, _ → Ga y) ∧ _ from HGA).1 _ ⟨fun h => hc h.2, rfl⟩
      have hcb : (c != 0) = true := by simpa using hc
      clear HC HGA HGO ht HA6 HRF HGK HK46 l4 hc
      go_wp2_with fail
      obtain ⟨e0, e1, e2, e3, e4⟩ := rw_set (show Rw w6 (w.heap.size + 2) from RF) 0 0 0 ⟨#[]⟩ 0
      have GG : Hid (Kq w (s5 w6 (w.heap.size + 2) 0 0 0 ⟨#[]⟩ 0)) := s5_kq GK (by omega) 0 0 0 ⟨#[]⟩ 0
      obtain ⟨WF, hWF⟩ : ∃ WF, WF = s5 w6 (w.heap.size + 2) 0 0 0 ⟨#[]⟩ 0 := ⟨_, rfl⟩
      rw [← hWF] at e0 e1 e2 e3 e4 GG
      have hWF' := hWF
      unfold s5 at hWF'
      rw [← hWF']
      clear hWF hWF'
      dsimp only at e0 e1 e2 e3 e4
      refine bodyPost_ret (by simp [results, Try.results20, go_sem, e0, e1, e2, e3, e4]; rfl) rfl ?_
      exact ⟨⟨0, 0, 0, ⟨#[]⟩, 0⟩, rfl, HE, GG⟩
    have HG : Hid (Calls Try.prog 46 #[.pointer (some ⟨B, 0, none⟩), .agg #[.int .i64 uk, .int .i64 um, .float .f64 ug, .string ux, .int .i64 ur]] w6 fun e w' => ∃ y, e = .returned (vv y) ∧ Gu y ∧ Kq w6 w') := (show c = 0 → tok n F T → _ from HGO) hc ht B M v' w3 w6 (l4.on HK46)
    have HE0 : Hid (∀ y, Gu y → Ga y) := (fun y h => (show _ ∧ (∀ y, tok n F T → c = 0 → Gu y → Ga y) from HGA).2 y ht hc h : ∀ y, Gu y → Ga y)
    subst hc
    clear HC HGA HGO ht HA6 HRF HGK HK46 l4 u0 u1 u2 u3 u4 uz
    go_wp2_with fail
    refine (show Calls Try.prog 46 #[.pointer (some ⟨B, 0, none⟩), .agg #[.int .i64 uk, .int .i64 um, .float .f64 ug, .string ux, .int .i64 ur]] w6 _ from HG).mono ?_
    rintro e w7 ⟨⟨yk, ym, yg, yx, yr⟩, rfl, hgy, k7⟩
    have HE : Hid (Ga ⟨yk, ym, yg, yx, yr⟩) := (show ∀ y, Gu y → Ga y from HE0) _ hgy
    have GK7 : Hid (Kq w w7) := Kq.trans GK k7
    have RF7 : Hid (Rw w7 (w.heap.size + 2)) := Rw.kq RF k7
    clear HG HE0 hgy k7 GK RF a0 a1 a2 a3 a4 a5
    have GK : Hid (Kq w w7) := GK7
    have RF : Hid (Rw w7 (w.heap.size + 2)) := RF7
    obtain ⟨u0, u1, u2, u3, u4, uz⟩ := (show Rw w7 (w.heap.size + 2) from RF)
    unfold vv
    dsimp only
    go_wp2_with fail
    obtain ⟨e0, e1, e2, e3, e4⟩ := rw_set (show Rw w7 (w.heap.size + 2) from RF) yk ym yg yx yr
    have GG : Hid (Kq w (s5 w7 (w.heap.size + 2) yk ym yg yx yr)) := s5_kq GK (by omega) yk ym yg yx yr
    obtain ⟨WF, hWF⟩ : ∃ WF, WF = s5 w7 (w.heap.size + 2) yk ym yg yx yr := ⟨_, rfl⟩
    rw [← hWF] at e0 e1 e2 e3 e4 GG
    have hWF' := hWF
    unfold s5 at hWF'
    rw [← hWF']
    clear hWF hWF'
    dsimp only at e0 e1 e2 e3 e4
    refine bodyPost_ret (by simp [results, Try.results20, go_sem, e0, e1, e2, e3, e4]; rfl) rfl ?_
    exact ⟨⟨yk, ym, yg, yx, yr⟩, rfl, HE, GG⟩
end Go.Proofs.Ytfpidccjcemcjaa
namespace Go.Proofs.Ytfpidccjcemcjaa
open Go.ChangeShapes Go.WideShapes Go.ChangeAt Go.RowKit
set_option linter.unusedVariables false
set_option maxRecDepth 100000
theorem ky_size {v u : Vv} {c : Int} (h : Ky v c u) (hx : (v.x.size : Int) ≤ 1048576) : (u.x.size : Int) ≤ 1048576 := by
  cases h <;> first | exact hx | (show ((0 : Nat) : Int) ≤ 1048576; omega)
/-- what a key that may be looked for is -/
structure Uk (u : Vv) : Prop where
  key : kok u
  vb : Vb u
  sz : (u.x.size : Int) ≤ 1048576
set_option maxHeartbeats 8000000 in
theorem sp_get0 {v : Value} {g0 n : Nat} {F : Nat → Pv} (T : Int) (ky : Vv) (c : Int) (u : Vv) (hy : Ky ky c u) (kb : Vb ky) (hxk : (ky.x.size : Int) ≤ 1048576) (huk : c = 0 → Uk u) (w : World) (ha : OwnP w v g0 n F) (tb : Tb n F) (hks : ∀ i, i < n → kok (F i).a) : Calls Try.prog 45 #[.agg #[v, .int .i64 T], vv ky] w fun e w' => ∃ y, e = .returned (vv y) ∧ ((¬ c = 0 ∧ y = vz) ∨ (c = 0 ∧ Gt n F u y)) ∧ Kq w w' := by
  obtain ⟨pa, ca, rfl, ha2⟩ := ha.sl
  have hnI : (n : Int) ≤ 1048576 := by have := tb.len; omega
  have HKEY := fun w => sp_key hy hxk kb.g w
  have HAT : Hid (c = 0 → ∀ W, Kq w W → Calls Try.prog 68 #[.agg #[.slice pa n ca, .int .i64 T], vv u] W fun e w' => ∃ r : Int, e = .returned (.int .i64 r) ∧ At n F u r ∧ Kq W w') := (fun hc W q => sp_at T u W (ha.kq q) tb hks (huk hc).key (huk hc).vb (huk hc).sz : c = 0 → ∀ W, Kq w W → _)
  have HROW : Hid ((0 < n → pa = some ⟨g0, 0, none⟩ ∧ n ≤ ca) ∧ (∀ i, i < n → Cp w ⟨g0, i * 11, none⟩ (F i))) := (⟨ha2, ha.ce⟩ : _ ∧ _)
  have HGA : Hid ((¬ c = 0 → ((¬ c = 0 ∧ vz = vz) ∨ (c = 0 ∧ Gt n F u vz))) ∧ (∀ r, c = 0 → At n F u r → ((r = -1 ∧ Gt n F u vz) ∨ ∃ j : Nat, j < n ∧ r = (j : Int) ∧ Gt n F u (F j).b))) := (⟨fun h => .inl ⟨h, rfl⟩, fun r hc h => by
    rcases h with ⟨e, h⟩ | ⟨j, hj, e, h⟩
    · exact .inl ⟨e, .inl ⟨rfl, h⟩⟩
    · exact .inr ⟨j, hj, e, .inr ⟨j, hj, h, rfl⟩⟩⟩ : _ ∧ _)
  generalize Gt n F u = Gu at HGA ⊢
  generalize At n F u = Au at HGA HAT
  clear huk hks tb kb hy hxk ha2 ha
  obtain ⟨uk, um, ug, ux, ur⟩ := u
  obtain ⟨k, m, g, x, r⟩ := ky
  unfold vv at HKEY HAT ⊢
  unfold va at HKEY
  dsimp only at HKEY HAT ⊢
  obtain ⟨w3, hw3⟩ : ∃ w3, w3 = ((w.alloc (.cells #[.slice pa n ca, .int .i64 T] 40)).alloc (.cells #[.int .i64 k, .int .i64 m, .float .f64 g, .string x, .int .i64 r] 26)).alloc (.cells #[.int .i64 0, .int .i64 0, .float .f64 0, .string ⟨#[]⟩, .int .i64 0] 26) := ⟨_, rfl⟩
  obtain ⟨x0, x1, x2, z3, k3⟩ := three_new w _ _ _ _ _ _ w3 hw3
  have rf3 := Rw.three hw3
  have HX : Hid (Kq w w3 ∧ Rw w3 (w.heap.size + 2) ∧ w3.heap[w.heap.size]? = some (.cells #[.slice pa n ca, .int .i64 T] 40 (0, 0)) ∧ w3.heap.size = w.heap.size + 3) := (⟨k3, rf3, x0, z3⟩ : _ ∧ _ ∧ _ ∧ _)
  clear x0 x1 x2 z3 k3 rf3
  have hst : ∀ (a : Addr) (n : Nat) (m : Mode) (w : World), (store a (.float .f64 n) m).run Try.prog w = stored Try.prog w a (.float .f64 n) m := fun a n m w => run_store _ _ _ _ _ rfl
  go_enter Try.func45, Try.ntmps45
  go_wp2_with fail
  rw [← hw3]
  clear hw3
  refine (HKEY _).mono ?_
  rintro e w5 ⟨rfl, k5⟩
  go_upto_region 2 with fail
  have ga : Kq w5 (w5.alloc (.cells #[.int .i64 c, .int .i64 uk, .int .i64 um, .float .f64 ug, .string ux, .int .i64 ur] 28)) := kq_alloc _ _ _
  have hX := (show Kq w w3 ∧ Rw w3 (w.heap.size + 2) ∧ w3.heap[w.heap.size]? = some (.cells #[.slice pa n ca, .int .i64 T] 40 (0, 0)) ∧ w3.heap.size = w.heap.size + 3 from HX)
  have k36 : Kq w3 (w5.alloc (.cells #[.int .i64 c, .int .i64 uk, .int .i64 um, .float .f64 ug, .string ux, .int .i64 ur] 28)) := k5.trans ga
  have HA6 : Hid (Ac (w5.alloc (.cells #[.int .i64 c, .int .i64 uk, .int .i64 um, .float .f64 ug, .string ux, .int .i64 ur] 28)) w5.heap.size c ⟨uk, um, ug, ux, ur⟩) := Ac.new _ _ _ _ _ _ _ _
  have HRF : Hid (Rw (w5.alloc (.cells #[.int .i64 c, .int .i64 uk, .int .i64 um, .float .f64 ug, .string ux, .int .i64 ur] 28)) (w.heap.size + 2)) := hX.2.1.kq k36
  have HGK : Hid (Kq w (w5.alloc (.cells #[.int .i64 c, .int .i64 uk, .int .i64 um, .float .f64 ug, .string ux, .int .i64 ur] 28))) := hX.1.trans k36
  have t0 := k36.cell (cell_of hX.2.2.1 (j := 0) rfl)
  have t1 := k36.cell (cell_of hX.2.2.1 (j := 1) rfl)
  have hz2 : w.heap.size + 2 < w5.heap.size := by have h1 := hX.2.2.2; have h3 := k5.size; omega
  clear ga hX k36 k5 HX HKEY
  generalize w5.alloc (.cells #[.int .i64 c, .int .i64 uk, .int .i64 um, .float .f64 ug, .string ux, .int .i64 ur] 28) = w6 at HA6 HRF HGK t0 t1 ⊢
  generalize w5.heap.size = VB at HA6 hz2 ⊢
  obtain ⟨a0, a1, a2, a3, a4, a5⟩ := (show Ac w6 VB c ⟨uk, um, ug, ux, ur⟩ from HA6)
  dsimp only at a0 a1 a2 a3 a4 a5
  by_cases hc : c = 0
  case neg =>
    have HE : Hid ((¬ c = 0 ∧ (⟨0, 0, 0, ⟨#[]⟩, 0⟩ : Vv) = vz) ∨ (c = 0 ∧ Gu ⟨0, 0, 0, ⟨#[]⟩, 0⟩)) := (.inl ⟨hc, rfl⟩ : _ ∨ _)
    have hcb : (c != 0) = true := by simpa using hc
    have GK : Hid (Kq w w6) := HGK
    have RF : Hid (Rw w6 (w.heap.size + 2)) := HRF
    obtain ⟨u0, u1, u2, u3, u4, uz⟩ := (show Rw w6 (w.heap.size + 2) from RF)
    clear HGA HAT HROW HA6 HRF HGK hc t0 t1
    go_wp2_with fail
    obtain ⟨e0, e1, e2, e3, e4⟩ := rw_set (show Rw w6 (w.heap.size + 2) from RF) 0 0 0 ⟨#[]⟩ 0
    have GG : Hid (Kq w (s5 w6 (w.heap.size + 2) 0 0 0 ⟨#[]⟩ 0)) := s5_kq GK (by omega) 0 0 0 ⟨#[]⟩ 0
    obtain ⟨WF, hWF⟩ : ∃ WF, WF = s5 w6 (w.heap.size + 2) 0 0 0 ⟨#[]⟩ 0 := ⟨_, rfl⟩
    rw [← hWF] at e0 e1 e2 e3 e4 GG
    have hWF' := hWF
    unfold s5 at hWF'
    rw [← hWF']
    clear hWF hWF'
    dsimp only at e0 e1 e2 e3 e4
    refine bodyPost_ret (by simp [results, Try.results45, go_sem, e0, e1, e2, e3, e4]; rfl) rfl ?_
    exact ⟨⟨0, 0, 0, ⟨#[]⟩, 0⟩, rfl, HE, GG⟩
  have HC0 : Hid (c = 0) := hc
  have HAT6 : Hid (Calls Try.prog 68 #[.agg #[.slice pa n ca, .int .i64 T], .agg #[.int .i64 uk, .int .i64 um, .float .f64 ug, .string ux, .int .i64 ur]] w6 fun e w' => ∃ r : Int, e = .returned (.int .i64 r) ∧ Au r ∧ Kq w6 w') := (show c = 0 → ∀ W, Kq w W → _ from HAT) hc w6 HGK
  have hcf : (c != 0) = false := by simp [hc]
  clear HAT HA6 hc
  go_wp2_with fail
  refine (show Calls Try.prog 68 #[.agg #[.slice pa n ca, .int .i64 T], .agg #[.int .i64 uk, .int .i64 um, .float .f64 ug, .string ux, .int .i64 ur]] w6 _ from HAT6).mono ?_
  rintro e w7 ⟨q, rfl, hat, k7⟩
  have GK : Hid (Kq w w7) := Kq.trans HGK k7
  have RF : Hid (Rw w7 (w.heap.size + 2)) := Rw.kq HRF k7
  have s0 := k7.cell t0
  obtain ⟨u0, u1, u2, u3, u4, uz⟩ := (show Rw w7 (w.heap.size + 2) from RF)
  have hq := (show _ ∧ (∀ r, c = 0 → Au r → ((r = -1 ∧ Gu vz) ∨ ∃ j : Nat, j < n ∧ r = (j : Int) ∧ Gu (F j).b)) from HGA).2 q HC0 hat
  clear HAT6 HGA hat k7 HRF HGK t0 t1 a0 a1 a2 a3 a4 a5
  rcases hq with ⟨rfl, hgu⟩ | ⟨j, hj, rfl, hgu⟩
  · have HE : Hid ((¬ c = 0 ∧ (⟨0, 0, 0, ⟨#[]⟩, 0⟩ : Vv) = vz) ∨ (c = 0 ∧ Gu ⟨0, 0, 0, ⟨#[]⟩, 0⟩)) := (.inr ⟨HC0, hgu⟩ : _ ∨ _)
    clear hgu HC0 HROW
    go_wp2_with fail
    obtain ⟨e0, e1, e2, e3, e4⟩ := rw_set (show Rw w7 (w.heap.size + 2) from RF) 0 0 0 ⟨#[]⟩ 0
    have GG : Hid (Kq w (s5 w7 (w.heap.size + 2) 0 0 0 ⟨#[]⟩ 0)) := s5_kq GK (by omega) 0 0 0 ⟨#[]⟩ 0
    obtain ⟨WF, hWF⟩ : ∃ WF, WF = s5 w7 (w.heap.size + 2) 0 0 0 ⟨#[]⟩ 0 := ⟨_, rfl⟩
    rw [← hWF] at e0 e1 e2 e3 e4 GG
    have hWF' := hWF
    unfold s5 at hWF'
    rw [← hWF']
    clear hWF hWF'
    dsimp only at e0 e1 e2 e3 e4
    refine bodyPost_ret (by simp [results, Try.results45, go_sem, e0, e1, e2, e3, e4]; rfl) rfl ?_
    exact ⟨⟨0, 0, 0, ⟨#[]⟩, 0⟩, rfl, HE, GG⟩
  · have HE : Hid ((¬ c = 0 ∧ (F j).b = vz) ∨ (c = 0 ∧ Gu (F j).b)) := (.inr ⟨HC0, hgu⟩ : _ ∨ _)
    have hR := (show (0 < n → pa = some ⟨g0, 0, none⟩ ∧ n ≤ ca) ∧ (∀ i, i < n → Cp w ⟨g0, i * 11, none⟩ (F i)) from HROW)
    obtain ⟨rfl, hca⟩ := hR.1 (by omega)
    obtain ⟨d0, d1, d2, d3, d4, d5, d6, d7, d8, d9, d10⟩ := (hR.2 j hj).kq (show Kq w w7 from GK)
    have hjI : (j : Int) < (n : Int) := by omega
    have hj0 : ¬ (j : Int) < 0 := by omega
    clear hR HROW hgu HC0
    generalize F j = p at HE d0 d1 d2 d3 d4 d5 d6 d7 d8 d9 d10
    obtain ⟨pa', ⟨yk, ym, yg, yx, yr⟩, pt⟩ := p
    dsimp only at HE d0 d1 d2 d3 d4 d5 d6 d7 d8 d9 d10
    go_wp2_with fail
    clear d0 d1 d2 d3 d4 d5 d6 d7 d8 d9 d10 u0 u1 u2 u3 u4 uz s0
    obtain ⟨e0, e1, e2, e3, e4⟩ := rw_set (show Rw w7 (w.heap.size + 2) from RF) yk ym yg yx yr
    have GG : Hid (Kq w (s5 w7 (w.heap.size + 2) yk ym yg yx yr)) := s5_kq GK (by omega) yk ym yg yx yr
    obtain ⟨WF, hWF⟩ : ∃ WF, WF = s5 w7 (w.heap.size + 2) yk ym yg yx yr := ⟨_, rfl⟩
    rw [← hWF] at e0 e1 e2 e3 e4 GG
    have hWF' := hWF
    unfold s5 at hWF'
    rw [← hWF']
    clear hWF hWF'
    dsimp only at e0 e1 e2 e3 e4
    refine bodyPost_ret (by simp [results, Try.results45, go_sem, e0, e1, e2, e3, e4]; rfl) rfl ?_
    exact ⟨⟨yk, ym, yg, yx, yr⟩, rfl, HE, GG⟩
set_option maxHeartbeats 8000000 in
theorem sp_get {v : Value} {g0 n : Nat} {F : Nat → Pv} (T : Int) (ky : Vv) (c : Int) (u : Vv) (hy : Ky ky c u) (kb : Vb ky) (hxk : (ky.x.size : Int) ≤ 1048576) (huk : c = 0 → Uk u) (w : World) (ha : OwnP w v g0 n F) (tb : Tb n F) : Calls Try.prog 19 #[.agg #[v, .int .i64 T], vv ky] w fun e w' => ∃ y, e = .returned (vv y) ∧ GtA n F T c u y ∧ Kq w w' := by
  obtain ⟨pa, ca, rfl, ha2⟩ := ha.sl
  have HG : Hid (tok n F T → ∀ W, Kq w W → Calls Try.prog 45 #[.agg #[.slice pa n ca, .int .i64 T], vv ky] W fun e w' => ∃ y, e = .returned (vv y) ∧ ((¬ c = 0 ∧ y = vz) ∨ (c = 0 ∧ Gt n F u y)) ∧ Kq W w') := (fun ht W q => sp_get0 T ky c u hy kb hxk huk W (ha.kq q) tb (fun i hi => (ht.2.2.2 i hi).1) : tok n F T → ∀ W, Kq w W → _)
  have HGA : Hid ((¬ tok n F T → GtA n F T c u vz) ∧ (tok n F T → ∀ y, ((¬ c = 0 ∧ y = vz) ∨ (c = 0 ∧ Gt n F u y)) → GtA n F T c u y)) := (⟨fun h => .inl ⟨fun q => h q.1, rfl⟩, fun ht y h => by
    rcases h with ⟨h1, rfl⟩ | ⟨h1, h2⟩
    · exact .inl ⟨fun q => h1 q.2, rfl⟩
    · exact .inr ⟨ht, h1, h2⟩⟩ : _ ∧ _)
  generalize GtA n F T c u = Ga at HGA ⊢
  generalize Gt n F u = Gu at HGA HG
  obtain ⟨k, m, g, x, r⟩ := ky
  unfold vv at HG ⊢
  dsimp only at HG ⊢
  obtain ⟨w3, hw3⟩ : ∃ w3, w3 = ((w.alloc (.cells #[.slice pa n ca, .int .i64 T] 40)).alloc (.cells #[.int .i64 k, .int .i64 m, .float .f64 g, .string x, .int .i64 r] 26)).alloc (.cells #[.int .i64 0, .int .i64 0, .float .f64 0, .string ⟨#[]⟩, .int .i64 0] 26) := ⟨_, rfl⟩
  obtain ⟨x0, x1, x2, z3, k3⟩ := three_new w _ _ _ _ _ _ w3 hw3
  have rf3 := Rw.three hw3
  have HO : Hid (Calls Try.prog 15 #[.agg #[.slice pa n ca, .int .i64 T]] w3 fun e w' => e = .returned (.bool (dc (tok n F T))) ∧ Kq w3 w') := sp_tableok T w3 (ha.kq k3) tb
  have HX : Hid (Kq w w3 ∧ Rw w3 (w.heap.size + 2) ∧ w3.heap[w.heap.size]? = some (.cells #[.slice pa n ca, .int .i64 T] 40 (0, 0)) ∧ w3.heap[w.heap.size + 1]? = some (.cells #[.int .i64 k, .int .i64 m, .float .f64 g, .string x, .int .i64 r] 26 (0, 0))) := (⟨k3, rf3, x0, x1⟩ : _ ∧ _ ∧ _ ∧ _)
  clear x0 x1 x2 z3 k3 rf3 ha2 ha tb hy kb hxk huk
  have hst : ∀ (a : Addr) (n : Nat) (m : Mode) (w : World), (store a (.float .f64 n) m).run Try.prog w = stored Try.prog w a (.float .f64 n) m := fun a n m w => run_store _ _ _ _ _ rfl
  go_enter Try.func19, Try.ntmps19
  go_wp2_with fail
  rw [← hw3]
  clear hw3
  refine (show Calls Try.prog 15 #[.agg #[.slice pa n ca, .int .i64 T]] w3 _ from HO).mono ?_
  rintro e w4 ⟨rfl, k4⟩
  have hX := (show Kq w w3 ∧ Rw w3 (w.heap.size + 2) ∧ w3.heap[w.heap.size]? = some (.cells #[.slice pa n ca, .int .i64 T] 40 (0, 0)) ∧ w3.heap[w.heap.size + 1]? = some (.cells #[.int .i64 k, .int .i64 m, .float .f64 g, .string x, .int .i64 r] 26 (0, 0)) from HX)
  have GK4 : Hid (Kq w w4) := hX.1.trans k4
  have RF4 : Hid (Rw w4 (w.heap.size + 2)) := hX.2.1.kq k4
  by_cases ht : tok n F T
  case neg =>
    rw [dc_f ht]
    have HE : Hid (Ga ⟨0, 0, 0, ⟨#[]⟩, 0⟩) := (show (¬ tok n F T → Ga vz) ∧ _ from HGA).1 ht
    have GK : Hid (Kq w w4) := GK4
    have RF : Hid (Rw w4 (w.heap.size + 2)) := RF4
    obtain ⟨u0, u1, u2, u3, u4, uz⟩ := (show Rw w4 (w.heap.size + 2) from RF)
    clear hX HX HO HG HGA ht k4 GK4 RF4
    go_wp2_with fail
    obtain ⟨e0, e1, e2, e3, e4⟩ := rw_set (show Rw w4 (w.heap.size + 2) from RF) 0 0 0 ⟨#[]⟩ 0
    have GG : Hid (Kq w (s5 w4 (w.heap.size + 2) 0 0 0 ⟨#[]⟩ 0)) := s5_kq GK (by omega) 0 0 0 ⟨#[]⟩ 0
    obtain ⟨WF, hWF⟩ : ∃ WF, WF = s5 w4 (w.heap.size + 2) 0 0 0 ⟨#[]⟩ 0 := ⟨_, rfl⟩
    rw [← hWF] at e0 e1 e2 e3 e4 GG
    have hWF' := hWF
    unfold s5 at hWF'
    rw [← hWF']
    clear hWF hWF'
    dsimp only at e0 e1 e2 e3 e4
    refine bodyPost_ret (by simp [results, Try.results19, go_sem, e0, e1, e2, e3, e4]; rfl) rfl ?_
    exact ⟨⟨0, 0, 0, ⟨#[]⟩, 0⟩, rfl, HE, GG⟩
  rw [dc_t ht]
  have b0 := k4.cell (cell_of hX.2.2.1 (j := 0) rfl)
  have b1 := k4.cell (cell_of hX.2.2.1 (j := 1) rfl)
  have v0 := k4.cell (cell_of hX.2.2.2 (j := 0) rfl)
  have v1 := k4.cell (cell_of hX.2.2.2 (j := 1) rfl)
  have v2 := k4.cell (cell_of hX.2.2.2 (j := 2) rfl)
  have v3 := k4.cell (cell_of hX.2.2.2 (j := 3) rfl)
  have v4 := k4.cell (cell_of hX.2.2.2 (j := 4) rfl)
  have HG4 : Hid (Calls Try.prog 45 #[.agg #[.slice pa n ca, .int .i64 T], .agg #[.int .i64 k, .int .i64 m, .float .f64 g, .string x, .int .i64 r]] w4 fun e w' => ∃ y, e = .returned (vv y) ∧ ((¬ c = 0 ∧ y = vz) ∨ (c = 0 ∧ Gu y)) ∧ Kq w4 w') := (show tok n F T → ∀ W, Kq w W → _ from HG) ht w4 GK4
  have HE0 : Hid (∀ y, ((¬ c = 0 ∧ y = vz) ∨ (c = 0 ∧ Gu y)) → Ga y) := (show _ ∧ (tok n F T → ∀ y, _ → Ga y) from HGA).2 ht
  clear hX HX HO HG HGA ht k4
  go_wp2_with fail
  refine (show Calls Try.prog 45 #[.agg #[.slice pa n ca, .int .i64 T], .agg #[.int .i64 k, .int .i64 m, .float .f64 g, .string x, .int .i64 r]] w4 _ from HG4).mono ?_
  rintro e w5 ⟨⟨yk, ym, yg, yx, yr⟩, rfl, hgy, k5⟩
  have HE : Hid (Ga ⟨yk, ym, yg, yx, yr⟩) := (show ∀ y, _ → Ga y from HE0) _ hgy
  have GK : Hid (Kq w w5) := Kq.trans GK4 k5
  have RF : Hid (Rw w5 (w.heap.size + 2)) := Rw.kq RF4 k5
  obtain ⟨u0, u1, u2, u3, u4, uz⟩ := (show Rw w5 (w.heap.size + 2) from RF)
  clear HG4 HE0 hgy k5 GK4 RF4 b0 b1 v0 v1 v2 v3 v4
  unfold vv
  dsimp only
  go_wp2_with fail
  obtain ⟨e0, e1, e2, e3, e4⟩ := rw_set (show Rw w5 (w.heap.size + 2) from RF) yk ym yg yx yr
  have GG : Hid (Kq w (s5 w5 (w.heap.size + 2) yk ym yg yx yr)) := s5_kq GK (by omega) yk ym yg yx yr
  obtain ⟨WF, hWF⟩ : ∃ WF, WF = s5 w5 (w.heap.size + 2) yk ym yg yx yr := ⟨_, rfl⟩
  rw [← hWF] at e0 e1 e2 e3 e4 GG
  have hWF' := hWF
  unfold s5 at hWF'
  rw [← hWF']
  clear hWF hWF'
  dsimp only at e0 e1 e2 e3 e4
  refine bodyPost_ret (by simp [results, Try.results19, go_sem, e0, e1, e2, e3, e4]; rfl) rfl ?_
  exact ⟨⟨yk, ym, yg, yx, yr⟩, rfl, HE, GG⟩
end Go.Proofs.Ytfpidccjcemcjaa
namespace Go.Proofs.Ytfpidccjcemcjaa
open Go.ChangeShapes Go.WideShapes Go.ChangeAt Go.RowKit
set_option linter.unusedVariables false
set_option maxRecDepth 100000
section
variable {P : Program} {ops : Array Oper} {Q : Exit → Act → World → Prop} {md : Region.Mode} {S : World → Prop} {z : Nat}
/-- two operations may come up -/
theorem AnyL.two (i j : Nat) {l : List Oper} {oi oj : Oper} {k : Nat} {listed : Array Bool} {a : Act} {w : World} (hi : l[i]? = some oi) (hj : l[j]? = some oj) (hr : Region.ready md l.toArray listed = [i, j]) (hwi : Region.wanted oi (yielded l.toArray a.tmps) = true) (hwj : Region.wanted oj (yielded l.toArray a.tmps) = true)
    (h1 : ∀ K : Act → World → Prop, Shut (∀ a' w', (i ≠ z → S w') → AnyL P md l.toArray Q S z k (listed.setIfInBounds i true) a' w' → K a' w') → Oper.wp P oi a w K Q)
    (h2 : ∀ K : Act → World → Prop, Shut (∀ a' w', (j ≠ z → S w') → AnyL P md l.toArray Q S z k (listed.setIfInBounds j true) a' w' → K a' w') → Oper.wp P oj a w K Q) : AnyL P md l.toArray Q S z (k + 1) listed a w := by
  refine ⟨fun h => absurd h (by rw [hr]; simp), fun m hm => ?_⟩
  rw [hr] at hm
  have hm' : m = i ∨ m = j := by simpa using hm
  rcases hm' with rfl | rfl
  · unfold wpOp
    have hi' : l.toArray[m]? = some oi := by simpa using hi
    simp only [hi', hwi, if_true]
    exact Or.inl (h1 _ (fun a' w' h1 h2 => ⟨h1, h2⟩))
  · unfold wpOp
    have hj' : l.toArray[m]? = some oj := by simpa using hj
    simp only [hj', hwj, if_true]
    exact Or.inl (h2 _ (fun a' w' h1 h2 => ⟨h1, h2⟩))
end
theorem conv_range {x : Nat} {z : Int} (h : floatToIntVal .f64 x .i64 = some z) : -9223372036854775808 ≤ z ∧ z ≤ 9223372036854775807 := by
  have := floatToIntVal_wf h
  simp [Lit.wf, IntKind.min, IntKind.max, IntKind.signed, IntKind.bits] at this
  omega
theorem ky_uk {v u : Vv} (h : Ky v 0 u) (vb : Vb v) (hx : (v.x.size : Int) ≤ 1048576) : Uk u := by
  refine ⟨ky_key h, ?_, ky_size h hx⟩
  generalize hc : (0 : Int) = c at h
  cases h with
  | bad ho => omega
  | nil ho k0 => omega
  | nan ho k3 hn => omega
  | whole z ho k3 hw =>
    have := conv_range hw.2.2.2.2
    exact ⟨by show -9223372036854775808 ≤ (2 : Int) ∧ (2 : Int) ≤ 9223372036854775807; omega, this, by show (0 : Nat) < 18446744073709551616; omega, by show ((0 : Nat) : Int) < 140737488355328; omega, by show -9223372036854775808 ≤ (0 : Int) ∧ (0 : Int) ≤ 9223372036854775807; omega⟩
  | flt ho k3 hn hw => exact vb
  | oth ho k0 k3 => exact vb
set_option maxHeartbeats 16000000 in
theorem law_get {v : Value} {n : Nat} {F : Nat → Pv} (T : Int) (ky : Vv) (kb : Vb ky) (w : World) (ta : Ta w v n F) : Calls Try.prog 5 #[.agg #[v, .int .i64 T], vv ky] w fun e w' => e = .returned (.bool true) ∧ Kq w w' := by
  obtain ⟨pa, ca, rfl, _⟩ := ta.row
  obtain ⟨c, u, hy⟩ := ky_ex ky
  obtain ⟨w1, hw1⟩ : ∃ w1, w1 = (w.alloc (.cells #[.slice pa n ca, .int .i64 T] 35)).alloc (.cells #[.int .i64 ky.k, .int .i64 ky.m, .float .f64 ky.g, .string ky.x, .int .i64 ky.r] 24) := ⟨_, rfl⟩
  obtain ⟨x0, x1, z1, k1⟩ := two_new w _ _ _ _ w1 hw1
  have HS : Hid (∀ W, Kq w1 W → Calls Try.prog 14 #[.agg #[.slice pa n ca, .int .i64 T], .int .i64 1048576] W fun e w' => ∃ r : Int, e = .returned (.int .i64 r) ∧ (0 ≤ r → Tb n F) ∧ -1 ≤ r ∧ r ≤ 1048576 ∧ Kq W w') := (fun W q => (sz_table T W ((ta.row.kq k1).kq q) ta.len (fun i hi => ⟨(ta.a i hi).x, (ta.b i hi).x⟩)).mono (fun e w' ⟨r, h1, h2, h3, h4, h5⟩ => ⟨r, h1, fun h => ⟨by have := (h2 h).1; omega, ta.a, ta.b, fun i hi => ((h2 h).2 i hi).1, fun i hi => ((h2 h).2 i hi).2, ta.t⟩, h3, h4, h5⟩) : ∀ W, Kq w1 W → _)
  have HT : Hid (Tb n F → ∀ W, Kq w1 W → Calls Try.prog 16 #[.agg #[.slice pa n ca, .int .i64 T]] W fun e w' => ∃ v g, e = .returned (.agg #[v, .int .i64 T]) ∧ OwnP w' v g n F ∧ W.heap.size ≤ g ∧ g < w'.heap.size ∧ Kq W w') := (fun tb W q => to_table T W ((ta.row.kq k1).kq q) tb.len : Tb n F → ∀ W, Kq w1 W → _)
  have HSZ := fun l hl w => sz_val ky l hl kb.x w
  have HTV := fun w => to_val ky w
  have HG1 : Hid (Tb n F → (ky.x.size : Int) ≤ 1048576 → ∀ W v1 g1, OwnP W v1 g1 n F → Calls Try.prog 19 #[.agg #[v1, .int .i64 T], vv ky] W fun e w' => ∃ y, e = .returned (vv y) ∧ GtA n F T c u y ∧ Kq W w') := (fun tb hx W v1 g1 ho => sp_get T ky c u hy kb hx (fun hc => ky_uk (by rw [← hc]; exact hy) kb hx) W ho tb : Tb n F → _)
  have HG2 : Hid (Tb n F → (ky.x.size : Int) ≤ 1048576 → ∀ W v1 g1, OwnP W v1 g1 n F → Calls Try.prog 20 #[.agg #[v1, .int .i64 T], vv ky] W fun e w' => ∃ y, e = .returned (vv y) ∧ GtA n F T c u y ∧ Kq W w') := (fun tb hx W v1 g1 ho => im_get T ky c u hy kb hx W ho tb : Tb n F → _)
  have HUQ : Hid (∀ y z, GtA n F T c u y → GtA n F T c u z → y = z) := (fun y z h1 h2 => h1.uniq h2 : ∀ y z, _)
  have HGL : Hid (Tb n F → ∀ y, GtA n F T c u y → y.g < 18446744073709551616) := (fun tb y h => h.glt tb : Tb n F → _)
  generalize GtA n F T c u = Ga at HG1 HG2 HUQ HGL
  clear hy kb
  obtain ⟨k, m, g, x, r⟩ := ky
  unfold vv at HSZ HTV HG1 HG2 ⊢
  dsimp only at HSZ HTV HG1 HG2 x1 hw1 ⊢
  have HSX0 : Hid (∀ W', Kq w1 W' → W'.cell? ⟨w.heap.size, 0, none⟩ = some (.slice pa n ca) ∧ W'.cell? ⟨w.heap.size, 1, none⟩ = some (.int .i64 T) ∧ Vc W' (w.heap.size + 1) ⟨k, m, g, x, r⟩) := (fun W' q => ⟨q.cell (cell_of x0 rfl), q.cell (cell_of x0 rfl), ⟨q.cell (cell_of x1 rfl), q.cell (cell_of x1 rfl), q.cell (cell_of x1 rfl), q.cell (cell_of x1 rfl), q.cell (cell_of x1 rfl)⟩⟩ : ∀ W', Kq w1 W' → _)
  have HK : Hid (Kq w w1) := k1
  clear ta k1 x0 x1 z1
  have hst : ∀ (a : Addr) (n : Nat) (m : Mode) (w : World), (store a (.float .f64 n) m).run Try.prog w = stored Try.prog w a (.float .f64 n) m := fun a n m w => run_store _ _ _ _ _ rfl
  go_enter Try.func5, Try.ntmps5
  go_wp2_with fail
  rw [← hw1]
  clear hw1
  refine ((show ∀ W, Kq w1 W → _ from HS) w1 (Kq.refl _)).mono ?_
  rintro e w2 ⟨l1, rfl, htb, hr0, hr1, g2⟩
  have HK2 : Hid (Kq w1 w2) := g2
  have HTB : Hid (0 ≤ l1 → Tb n F) := htb
  clear htb g2 HS
  rcases Int.lt_or_le l1 0 with hr | hr
  · go_wp2_with fail
    go_ret
    exact ⟨rfl, Kq.trans HK HK2⟩
  have hr' : ¬ l1 < 0 := by omega
  have tb := (show 0 ≤ l1 → Tb n F from HTB) hr
  obtain ⟨a0, a1, ⟨v0, v1, v2, v3, v4⟩⟩ := (show ∀ W', Kq w1 W' → W'.cell? ⟨w.heap.size, 0, none⟩ = some (.slice pa n ca) ∧ W'.cell? ⟨w.heap.size, 1, none⟩ = some (.int .i64 T) ∧ Vc W' (w.heap.size + 1) ⟨k, m, g, x, r⟩ from HSX0) w2 HK2
  dsimp only at v0 v1 v2 v3 v4
  have HSZ1 := fun w => HSZ l1 ⟨hr, hr1⟩ w
  clear HSZ HTB
  go_wp2_with fail
  refine (HSZ1 _).mono ?_
  rintro e w3 ⟨rfl, g3⟩
  have HK3 : Hid (Kq w1 w3) := Kq.trans HK2 (.of_grown g3)
  clear g3 HSZ1 a0 a1 v0 v1 v2 v3 v4 HK2
  by_cases hxs : (x.size : Int) ≤ l1
  case neg =>
    rw [if_neg hxs]
    clear HSX0 HT HTV HG1 HG2 HUQ HGL tb
    go_wp2_with fail
    go_ret
    exact ⟨rfl, Kq.trans HK HK3⟩
  rw [if_pos hxs]
  have hx2 : ¬ l1 - (x.size : Int) < 0 := by omega
  have hx3 : (x.size : Int) ≤ 1048576 := by omega
  have HTH : Hid (∀ W, Kq w1 W → Calls Try.prog 16 #[.agg #[.slice pa n ca, .int .i64 T]] W fun e w' => ∃ v g, e = .returned (.agg #[v, .int .i64 T]) ∧ OwnP w' v g n F ∧ W.heap.size ≤ g ∧ g < w'.heap.size ∧ Kq W w') := (show Tb n F → ∀ W, Kq w1 W → _ from HT) tb
  have HSG := (show Tb n F → _ from HG1) tb hx3
  have HIG := (show Tb n F → _ from HG2) tb hx3
  have HGLT : Hid (∀ y, Ga y → y.g < 18446744073709551616) := (show Tb n F → _ from HGL) tb
  have TBH : Hid (Tb n F) := tb
  have HSX := (show ∀ W', Kq w1 W' → W'.cell? ⟨w.heap.size, 0, none⟩ = some (.slice pa n ca) ∧ W'.cell? ⟨w.heap.size, 1, none⟩ = some (.int .i64 T) ∧ Vc W' (w.heap.size + 1) ⟨k, m, g, x, r⟩ from HSX0)
  clear HT HG1 HG2 HGL tb hxs hr hr' hr0 hr1
  go_upto_region 8 with fail
  go_cut [6] from 19 to 23 (fun s6 wx => ∃ (Z : Nat) (y : Vv), s6 = .pointer (some ⟨Z, 0, none⟩) ∧ Hid (Kq w1 wx ∧ Vc wx Z y ∧ Ga y))
  case first =>
    clear HIG HUQ HGLT TBH HSX0
    refine AnyL.region (S := fun W' : World => W'.cell? ⟨w.heap.size, 0, none⟩ = some (.slice pa n ca) ∧ W'.cell? ⟨w.heap.size, 1, none⟩ = some (.int .i64 T) ∧ Vc W' (w.heap.size + 1) ⟨k, m, g, x, r⟩) (z := 6) (by kernel_rfl) ?_
    obtain ⟨VD, hVD⟩ : ∃ VD, VD = w3.drew := ⟨_, rfl⟩
    rw [← hVD]
    have KD : Hid (Kq w1 VD) := by rw [hVD]; exact Kq.drew HK3
    have hS0 : (fun W' : World => W'.cell? ⟨w.heap.size, 0, none⟩ = some (.slice pa n ca) ∧ W'.cell? ⟨w.heap.size, 1, none⟩ = some (.int .i64 T) ∧ Vc W' (w.heap.size + 1) ⟨k, m, g, x, r⟩) VD := HSX VD KD
    clear hVD
    refine AnyL.takeAt 0 (.agg #[.slice pa n ca, .int .i64 T]) rfl (by kernel_rfl) (by kernel_rfl) (by kernel_rfl) (by kernel_rfl) (fun _ _ _ h => h) rfl hS0 (by intro W hW; obtain ⟨q0, q1, ⟨q2, q3, q4, q5, q6⟩⟩ := hW; go_simp) ?_
    try simp only [Act.put, List.setIfInBounds_toArray, List.set_cons_zero, List.set_cons_succ]
    refine AnyL.takeAt 2 (.agg #[.int .i64 k, .int .i64 m, .float .f64 g, .string x, .int .i64 r]) rfl (by kernel_rfl) (by kernel_rfl) (by kernel_rfl) (by kernel_rfl) (fun _ _ _ h => h) rfl hS0 (by intro W hW; obtain ⟨q0, q1, ⟨q2, q3, q4, q5, q6⟩⟩ := hW; go_simp) ?_
    try simp only [Act.put, List.setIfInBounds_toArray, List.set_cons_zero, List.set_cons_succ]
    refine AnyL.two 1 5 rfl rfl (by kernel_rfl) rfl rfl ?_ ?_
    · intro K hK
      go_simp
      refine ((show ∀ W, Kq w1 W → _ from HTH) (VD) KD).mono ?_
      rintro e w_1 ⟨vt, gt, rfl, hot, _, _, gk⟩
      have HOT : Hid (OwnP w_1 vt gt n F) := hot
      obtain ⟨pt, ct, rfl, _⟩ := hot.sl
      clear hot
      have K_2 : Hid (Kq w1 w_1) := Kq.trans KD gk
      have S_3 := HSX w_1 K_2
      clear gk
      refine hK.out _ _ (fun _ => S_3) ?_
      clear hK K
      try simp only [Act.put, List.setIfInBounds_toArray, List.set_cons_zero, List.set_cons_succ]
      refine AnyL.two 3 5 rfl rfl (by kernel_rfl) rfl rfl ?_ ?_
      · intro K hK
        go_simp
        refine (HTV (w_1)).mono ?_
        rintro e w_4 ⟨rfl, gk'⟩
        have gk : Kq _ w_4 := .of_grown gk'
        clear gk'
        have K_5 : Hid (Kq w1 w_4) := Kq.trans K_2 gk
        have S_6 := HSX w_4 K_5
        have HO_7 : Hid (OwnP w_4 (.slice pt n ct) gt n F) := OwnP.kq HOT gk
        clear gk
        refine hK.out _ _ (fun _ => S_6) ?_
        clear hK K
        try simp only [Act.put, List.setIfInBounds_toArray, List.set_cons_zero, List.set_cons_succ]
        refine AnyL.two 4 5 rfl rfl (by kernel_rfl) rfl rfl ?_ ?_
        · intro K hK
          go_simp
          refine (HSG (w_4) _ _ HO_7).mono ?_
          rintro e w_8 ⟨⟨yk, ym, yg, yx, yr⟩, rfl, hgy, gk⟩
          try unfold vv
          dsimp only
          have HGY : Hid (Ga ⟨yk, ym, yg, yx, yr⟩) := hgy
          clear hgy
          have K_9 : Hid (Kq w1 w_8) := Kq.trans K_5 gk
          have S_10 := HSX w_8 K_9
          have HO_11 : Hid (OwnP w_8 (.slice pt n ct) gt n F) := OwnP.kq HO_7 gk
          clear gk
          refine hK.out _ _ (fun _ => S_10) ?_
          clear hK K
          try simp only [Act.put, List.setIfInBounds_toArray, List.set_cons_zero, List.set_cons_succ]
          refine AnyL.oneAt 5 rfl (by kernel_rfl) rfl ?_
          intro K hK
          go_simp
          obtain ⟨Z_16, hZ⟩ : ∃ Z, Z = (w_8).heap.size := ⟨_, rfl⟩
          obtain ⟨w_12, hWn⟩ : ∃ Wn, Wn = ((w_8).alloc (.cells #[.int .i64 0, .int .i64 0, .float .f64 0, .string ⟨#[]⟩, .int .i64 0] 26)) := ⟨_, rfl⟩
          have gk : Kq (w_8) w_12 := by rw [hWn]; exact kq_alloc _ _ _
          have R_15 : Hid (Rw w_12 Z_16) := by rw [hWn, hZ]; exact Rw.new _ _
          have hz_17 : (w1).heap.size ≤ Z_16 := by rw [hZ]; exact (show Kq w1 (w_8) from K_9).size
          have K_13 : Hid (Kq w1 w_12) := Kq.trans K_9 gk
          have S_14 := HSX w_12 K_13
          have HO_18 : Hid (OwnP w_12 (.slice pt n ct) gt n F) := OwnP.kq HO_11 gk
          have hWd : (w_8).alloc (.cells #[.int .i64 0, .int .i64 0, .float .f64 0, .string ⟨#[]⟩, .int .i64 0] 26) = w_12 := hWn.symm
          have hZd : (w_8).heap.size = Z_16 := hZ.symm
          try simp only [hWd]
          try rw [hWd]
          try rw [hZd]
          clear gk hWn hZ hWd hZd
          refine hK.out _ _ (fun _ => S_14) ?_
          clear hK K
          try simp only [Act.put, List.setIfInBounds_toArray, List.set_cons_zero, List.set_cons_succ]
          obtain ⟨r0, r1, r2, r3, r4, rz⟩ := (show Rw w_12 Z_16 from R_15)
          refine AnyL.oneAt 6 rfl (by kernel_rfl) rfl ?_
          intro K hK
          go_simp
          refine hK.out _ _ (fun h => absurd rfl h) ?_
          clear hK K
          refine AnyL.done (by kernel_rfl) ?_
          have HV := rw_set (show Rw w_12 Z_16 from R_15) yk ym yg yx yr
          have HKF := s5_kq (show Kq w1 w_12 from K_13) hz_17 yk ym yg yx yr
          have hWF : s5 w_12 Z_16 yk ym yg yx yr = s5 w_12 Z_16 yk ym yg yx yr := rfl
          obtain ⟨WF, hWF⟩ : ∃ WF, WF = s5 w_12 Z_16 yk ym yg yx yr := ⟨_, rfl⟩
          rw [← hWF] at HV HKF
          unfold s5 at hWF
          rw [← hWF]
          clear hWF
          go_wp2_with fail
          go_meet
          exact ⟨Z_16, ⟨yk, ym, yg, yx, yr⟩, rfl, (⟨HKF, HV, HGY⟩ : _ ∧ _ ∧ _)⟩
        · intro K hK
          go_simp
          obtain ⟨Z_23, hZ⟩ : ∃ Z, Z = (w_4).heap.size := ⟨_, rfl⟩
          obtain ⟨w_19, hWn⟩ : ∃ Wn, Wn = ((w_4).alloc (.cells #[.int .i64 0, .int .i64 0, .float .f64 0, .string ⟨#[]⟩, .int .i64 0] 26)) := ⟨_, rfl⟩
          have gk : Kq (w_4) w_19 := by rw [hWn]; exact kq_alloc _ _ _
          have R_22 : Hid (Rw w_19 Z_23) := by rw [hWn, hZ]; exact Rw.new _ _
          have hz_24 : (w1).heap.size ≤ Z_23 := by rw [hZ]; exact (show Kq w1 (w_4) from K_5).size
          have K_20 : Hid (Kq w1 w_19) := Kq.trans K_5 gk
          have S_21 := HSX w_19 K_20
          have HO_25 : Hid (OwnP w_19 (.slice pt n ct) gt n F) := OwnP.kq HO_7 gk
          have hWd : (w_4).alloc (.cells #[.int .i64 0, .int .i64 0, .float .f64 0, .string ⟨#[]⟩, .int .i64 0] 26) = w_19 := hWn.symm
          have hZd : (w_4).heap.size = Z_23 := hZ.symm
          try simp only [hWd]
          try rw [hWd]
          try rw [hZd]
          clear gk hWn hZ hWd hZd
          refine hK.out _ _ (fun _ => S_21) ?_
          clear hK K
          try simp only [Act.put, List.setIfInBounds_toArray, List.set_cons_zero, List.set_cons_succ]
          refine AnyL.oneAt 4 rfl (by kernel_rfl) rfl ?_
          intro K hK
          go_simp
          refine (HSG (w_19) _ _ HO_25).mono ?_
          rintro e w_26 ⟨⟨yk, ym, yg, yx, yr⟩, rfl, hgy, gk⟩
          try unfold vv
          dsimp only
          have HGY : Hid (Ga ⟨yk, ym, yg, yx, yr⟩) := hgy
          clear hgy
          have K_27 : Hid (Kq w1 w_26) := Kq.trans K_20 gk
          have S_28 := HSX w_26 K_27
          have R_29 : Hid (Rw w_26 Z_23) := Rw.kq R_22 gk
          have HO_30 : Hid (OwnP w_26 (.slice pt n ct) gt n F) := OwnP.kq HO_25 gk
          clear gk
          refine hK.out _ _ (fun _ => S_28) ?_
          clear hK K
          try simp only [Act.put, List.setIfInBounds_toArray, List.set_cons_zero, List.set_cons_succ]
          obtain ⟨r0, r1, r2, r3, r4, rz⟩ := (show Rw w_26 Z_23 from R_29)
          refine AnyL.oneAt 6 rfl (by kernel_rfl) rfl ?_
          intro K hK
          go_simp
          refine hK.out _ _ (fun h => absurd rfl h) ?_
          clear hK K
          refine AnyL.done (by kernel_rfl) ?_
          have HV := rw_set (show Rw w_26 Z_23 from R_29) yk ym yg yx yr
          have HKF := s5_kq (show Kq w1 w_26 from K_27) hz_24 yk ym yg yx yr
          have hWF : s5 w_26 Z_23 yk ym yg yx yr = s5 w_26 Z_23 yk ym yg yx yr := rfl
          obtain ⟨WF, hWF⟩ : ∃ WF, WF = s5 w_26 Z_23 yk ym yg yx yr := ⟨_, rfl⟩
          rw [← hWF] at HV HKF
          unfold s5 at hWF
          rw [← hWF]
          clear hWF
          go_wp2_with fail
          go_meet
          exact ⟨Z_23, ⟨yk, ym, yg, yx, yr⟩, rfl, (⟨HKF, HV, HGY⟩ : _ ∧ _ ∧ _)⟩
      · intro K hK
        go_simp
        obtain ⟨Z_35, hZ⟩ : ∃ Z, Z = (w_1).heap.size := ⟨_, rfl⟩
        obtain ⟨w_31, hWn⟩ : ∃ Wn, Wn = ((w_1).alloc (.cells #[.int .i64 0, .int .i64 0, .float .f64 0, .string ⟨#[]⟩, .int .i64 0] 26)) := ⟨_, rfl⟩
        have gk : Kq (w_1) w_31 := by rw [hWn]; exact kq_alloc _ _ _
        have R_34 : Hid (Rw w_31 Z_35) := by rw [hWn, hZ]; exact Rw.new _ _
        have hz_36 : (w1).heap.size ≤ Z_35 := by rw [hZ]; exact (show Kq w1 (w_1) from K_2).size
        have K_32 : Hid (Kq w1 w_31) := Kq.trans K_2 gk
        have S_33 := HSX w_31 K_32
        have HO_37 : Hid (OwnP w_31 (.slice pt n ct) gt n F) := OwnP.kq HOT gk
        have hWd : (w_1).alloc (.cells #[.int .i64 0, .int .i64 0, .float .f64 0, .string ⟨#[]⟩, .int .i64 0] 26) = w_31 := hWn.symm
        have hZd : (w_1).heap.size = Z_35 := hZ.symm
        try simp only [hWd]
        try rw [hWd]
        try rw [hZd]
        clear gk hWn hZ hWd hZd
        refine hK.out _ _ (fun _ => S_33) ?_
        clear hK K
        try simp only [Act.put, List.setIfInBounds_toArray, List.set_cons_zero, List.set_cons_succ]
        refine AnyL.oneAt 3 rfl (by kernel_rfl) rfl ?_
        intro K hK
        go_simp
        refine (HTV (w_31)).mono ?_
        rintro e w_38 ⟨rfl, gk'⟩
        have gk : Kq _ w_38 := .of_grown gk'
        clear gk'
        have K_39 : Hid (Kq w1 w_38) := Kq.trans K_32 gk
        have S_40 := HSX w_38 K_39
        have R_41 : Hid (Rw w_38 Z_35) := Rw.kq R_34 gk
        have HO_42 : Hid (OwnP w_38 (.slice pt n ct) gt n F) := OwnP.kq HO_37 gk
        clear gk
        refine hK.out _ _ (fun _ => S_40) ?_
        clear hK K
        try simp only [Act.put, List.setIfInBounds_toArray, List.set_cons_zero, List.set_cons_succ]
        refine AnyL.oneAt 4 rfl (by kernel_rfl) rfl ?_
        intro K hK
        go_simp
        refine (HSG (w_38) _ _ HO_42).mono ?_
        rintro e w_43 ⟨⟨yk, ym, yg, yx, yr⟩, rfl, hgy, gk⟩
        try unfold vv
        dsimp only
        have HGY : Hid (Ga ⟨yk, ym, yg, yx, yr⟩) := hgy
        clear hgy
        have K_44 : Hid (Kq w1 w_43) := Kq.trans K_39 gk
        have S_45 := HSX w_43 K_44
        have R_46 : Hid (Rw w_43 Z_35) := Rw.kq R_41 gk
        have HO_47 : Hid (OwnP w_43 (.slice pt n ct) gt n F) := OwnP.kq HO_42 gk
        clear gk
        refine hK.out _ _ (fun _ => S_45) ?_
        clear hK K
        try simp only [Act.put, List.setIfInBounds_toArray, List.set_cons_zero, List.set_cons_succ]
        obtain ⟨r0, r1, r2, r3, r4, rz⟩ := (show Rw w_43 Z_35 from R_46)
        refine AnyL.oneAt 6 rfl (by kernel_rfl) rfl ?_
        intro K hK
        go_simp
        refine hK.out _ _ (fun h => absurd rfl h) ?_
        clear hK K
        refine AnyL.done (by kernel_rfl) ?_
        have HV := rw_set (show Rw w_43 Z_35 from R_46) yk ym yg yx yr
        have HKF := s5_kq (show Kq w1 w_43 from K_44) hz_36 yk ym yg yx yr
        have hWF : s5 w_43 Z_35 yk ym yg yx yr = s5 w_43 Z_35 yk ym yg yx yr := rfl
        obtain ⟨WF, hWF⟩ : ∃ WF, WF = s5 w_43 Z_35 yk ym yg yx yr := ⟨_, rfl⟩
        rw [← hWF] at HV HKF
        unfold s5 at hWF
        rw [← hWF]
        clear hWF
        go_wp2_with fail
        go_meet
        exact ⟨Z_35, ⟨yk, ym, yg, yx, yr⟩, rfl, (⟨HKF, HV, HGY⟩ : _ ∧ _ ∧ _)⟩
    · intro K hK
      go_simp
      obtain ⟨Z_52, hZ⟩ : ∃ Z, Z = (VD).heap.size := ⟨_, rfl⟩
      obtain ⟨w_48, hWn⟩ : ∃ Wn, Wn = ((VD).alloc (.cells #[.int .i64 0, .int .i64 0, .float .f64 0, .string ⟨#[]⟩, .int .i64 0] 26)) := ⟨_, rfl⟩
      have gk : Kq (VD) w_48 := by rw [hWn]; exact kq_alloc _ _ _
      have R_51 : Hid (Rw w_48 Z_52) := by rw [hWn, hZ]; exact Rw.new _ _
      have hz_53 : (w1).heap.size ≤ Z_52 := by rw [hZ]; exact (show Kq w1 (VD) from KD).size
      have K_49 : Hid (Kq w1 w_48) := Kq.trans KD gk
      have S_50 := HSX w_48 K_49
      have hWd : (VD).alloc (.cells #[.int .i64 0, .int .i64 0, .float .f64 0, .string ⟨#[]⟩, .int .i64 0] 26) = w_48 := hWn.symm
      have hZd : (VD).heap.size = Z_52 := hZ.symm
      try simp only [hWd]
      try rw [hWd]
      try rw [hZd]
      clear gk hWn hZ hWd hZd
      refine hK.out _ _ (fun _ => S_50) ?_
      clear hK K
      try simp only [Act.put, List.setIfInBounds_toArray, List.set_cons_zero, List.set_cons_succ]
      refine AnyL.oneAt 1 rfl (by kernel_rfl) rfl ?_
      intro K hK
      go_simp
      refine ((show ∀ W, Kq w1 W → _ from HTH) (w_48) K_49).mono ?_
      rintro e w_54 ⟨vt, gt, rfl, hot, _, _, gk⟩
      have HOT : Hid (OwnP w_54 vt gt n F) := hot
      obtain ⟨pt, ct, rfl, _⟩ := hot.sl
      clear hot
      have K_55 : Hid (Kq w1 w_54) := Kq.trans K_49 gk
      have S_56 := HSX w_54 K_55
      have R_57 : Hid (Rw w_54 Z_52) := Rw.kq R_51 gk
      clear gk
      refine hK.out _ _ (fun _ => S_56) ?_
      clear hK K
      try simp only [Act.put, List.setIfInBounds_toArray, List.set_cons_zero, List.set_cons_succ]
      refine AnyL.oneAt 3 rfl (by kernel_rfl) rfl ?_
      intro K hK
      go_simp
      refine (HTV (w_54)).mono ?_
      rintro e w_58 ⟨rfl, gk'⟩
      have gk : Kq _ w_58 := .of_grown gk'
      clear gk'
      have K_59 : Hid (Kq w1 w_58) := Kq.trans K_55 gk
      have S_60 := HSX w_58 K_59
      have R_61 : Hid (Rw w_58 Z_52) := Rw.kq R_57 gk
      have HO_62 : Hid (OwnP w_58 (.slice pt n ct) gt n F) := OwnP.kq HOT gk
      clear gk
      refine hK.out _ _ (fun _ => S_60) ?_
      clear hK K
      try simp only [Act.put, List.setIfInBounds_toArray, List.set_cons_zero, List.set_cons_succ]
      refine AnyL.oneAt 4 rfl (by kernel_rfl) rfl ?_
      intro K hK
      go_simp
      refine (HSG (w_58) _ _ HO_62).mono ?_
      rintro e w_63 ⟨⟨yk, ym, yg, yx, yr⟩, rfl, hgy, gk⟩
      try unfold vv
      dsimp only
      have HGY : Hid (Ga ⟨yk, ym, yg, yx, yr⟩) := hgy
      clear hgy
      have K_64 : Hid (Kq w1 w_63) := Kq.trans K_59 gk
      have S_65 := HSX w_63 K_64
      have R_66 : Hid (Rw w_63 Z_52) := Rw.kq R_61 gk
      have HO_67 : Hid (OwnP w_63 (.slice pt n ct) gt n F) := OwnP.kq HO_62 gk
      clear gk
      refine hK.out _ _ (fun _ => S_65) ?_
      clear hK K
      try simp only [Act.put, List.setIfInBounds_toArray, List.set_cons_zero, List.set_cons_succ]
      obtain ⟨r0, r1, r2, r3, r4, rz⟩ := (show Rw w_63 Z_52 from R_66)
      refine AnyL.oneAt 6 rfl (by kernel_rfl) rfl ?_
      intro K hK
      go_simp
      refine hK.out _ _ (fun h => absurd rfl h) ?_
      clear hK K
      refine AnyL.done (by kernel_rfl) ?_
      have HV := rw_set (show Rw w_63 Z_52 from R_66) yk ym yg yx yr
      have HKF := s5_kq (show Kq w1 w_63 from K_64) hz_53 yk ym yg yx yr
      have hWF : s5 w_63 Z_52 yk ym yg yx yr = s5 w_63 Z_52 yk ym yg yx yr := rfl
      obtain ⟨WF, hWF⟩ : ∃ WF, WF = s5 w_63 Z_52 yk ym yg yx yr := ⟨_, rfl⟩
      rw [← hWF] at HV HKF
      unfold s5 at hWF
      rw [← hWF]
      clear hWF
      go_wp2_with fail
      go_meet
      exact ⟨Z_52, ⟨yk, ym, yg, yx, yr⟩, rfl, (⟨HKF, HV, HGY⟩ : _ ∧ _ ∧ _)⟩
  case rest =>
  obtain ⟨Z, ⟨yk, ym, yg, yx, yr⟩, rfl, HF⟩ := hcut
  clear HSG HK3
  obtain ⟨a0, a1, _⟩ := HSX wc (show Kq w1 wc ∧ _ from HF).1
  go_wp2_with fail
  refine ((show ∀ W, Kq w1 W → _ from HTH) wc (show Kq w1 wc ∧ _ from HF).1).mono ?_
  rintro e w5 ⟨v2, g2, rfl, ho2, _, _, k5⟩
  obtain ⟨pb, cb, rfl, _⟩ := ho2.sl
  obtain ⟨w6, hw6⟩ : ∃ w6, w6 = w5.alloc (.cells #[.slice pb n cb, .int .i64 T] 40) := ⟨_, rfl⟩
  have k6 : Kq w5 w6 := by rw [hw6]; exact kq_alloc _ _ _
  have x6 : w6.heap[w5.heap.size]? = some (.cells #[.slice pb n cb, .int .i64 T] 40 (0, 0)) := by rw [hw6]; exact alloc_new _ _
  have HO6 : Hid (OwnP w6 (.slice pb n cb) g2 n F) := ho2.kq k6
  have hF := (show Kq w1 wc ∧ Vc wc Z ⟨yk, ym, yg, yx, yr⟩ ∧ Ga ⟨yk, ym, yg, yx, yr⟩ from HF)
  have HK6 : Hid (Kq w1 w6) := hF.1.trans (k5.trans k6)
  have HZ6 : Hid (Vc w6 Z ⟨yk, ym, yg, yx, yr⟩) := (hF.2.1.kq k5).kq k6
  have HGY1 : Hid (Ga ⟨yk, ym, yg, yx, yr⟩) := hF.2.2
  have HX6 : Hid (∀ W, Kq w6 W → W.cell? ⟨w5.heap.size, 0, none⟩ = some (.slice pb n cb) ∧ W.cell? ⟨w5.heap.size, 1, none⟩ = some (.int .i64 T)) := (fun W q => ⟨q.cell (cell_of x6 rfl), q.cell (cell_of x6 rfl)⟩ : ∀ W, Kq w6 W → _)
  clear ho2 k5 a0 a1 k6 x6 hF HF
  go_upto_region 10 with fail
  rw [← hw6]
  clear hw6
  generalize w5.heap.size = X at HX6 ⊢
  have HSY : ∀ W', Kq w6 W' → W'.cell? ⟨X, 0, none⟩ = some (.slice pb n cb) ∧ W'.cell? ⟨X, 1, none⟩ = some (.int .i64 T) ∧ Vc W' (w.heap.size + 1) ⟨k, m, g, x, r⟩ := fun W' q => ⟨((show ∀ W, Kq w6 W → _ from HX6) W' q).1, ((show ∀ W, Kq w6 W → _ from HX6) W' q).2, (HSX W' (Kq.trans HK6 q)).2.2⟩
  go_cut [8] from 26 to 29 (fun s8 wx => ∃ (Z : Nat) (y : Vv), s8 = .pointer (some ⟨Z, 0, none⟩) ∧ Hid (Kq w6 wx ∧ Vc wx Z y ∧ Ga y))
  case first =>
    clear HUQ HGLT TBH HSX0 HTH HX6 HZ6 HGY1 HSX
    refine AnyL.region (S := fun W' : World => W'.cell? ⟨X, 0, none⟩ = some (.slice pb n cb) ∧ W'.cell? ⟨X, 1, none⟩ = some (.int .i64 T) ∧ Vc W' (w.heap.size + 1) ⟨k, m, g, x, r⟩) (z := 5) (by kernel_rfl) ?_
    obtain ⟨VD, hVD⟩ : ∃ VD, VD = w6.drew := ⟨_, rfl⟩
    rw [← hVD]
    have KD : Hid (Kq w6 VD) := by rw [hVD]; exact Kq.drew (Kq.refl _)
    have hS0 : (fun W' : World => W'.cell? ⟨X, 0, none⟩ = some (.slice pb n cb) ∧ W'.cell? ⟨X, 1, none⟩ = some (.int .i64 T) ∧ Vc W' (w.heap.size + 1) ⟨k, m, g, x, r⟩) VD := HSY VD KD
    have HOD : Hid (OwnP VD (.slice pb n cb) g2 n F) := OwnP.kq HO6 KD
    clear hVD
    refine AnyL.takeAt 0 (.agg #[.slice pb n cb, .int .i64 T]) rfl (by kernel_rfl) (by kernel_rfl) (by kernel_rfl) (by kernel_rfl) (fun _ _ _ h => h) rfl hS0 (by intro W hW; obtain ⟨q0, q1, ⟨q2, q3, q4, q5, q6⟩⟩ := hW; go_simp) ?_
    try simp only [Act.put, List.setIfInBounds_toArray, List.set_cons_zero, List.set_cons_succ]
    refine AnyL.takeAt 1 (.agg #[.int .i64 k, .int .i64 m, .float .f64 g, .string x, .int .i64 r]) rfl (by kernel_rfl) (by kernel_rfl) (by kernel_rfl) (by kernel_rfl) (fun _ _ _ h => h) rfl hS0 (by intro W hW; obtain ⟨q0, q1, ⟨q2, q3, q4, q5, q6⟩⟩ := hW; go_simp) ?_
    try simp only [Act.put, List.setIfInBounds_toArray, List.set_cons_zero, List.set_cons_succ]
    refine AnyL.two 2 4 rfl rfl (by kernel_rfl) rfl rfl ?_ ?_
    · intro K hK
      go_simp
      refine (HTV (VD)).mono ?_
      rintro e w_68 ⟨rfl, gk'⟩
      have gk : Kq _ w_68 := .of_grown gk'
      clear gk'
      have K_69 : Hid (Kq w6 w_68) := Kq.trans KD gk
      have S_70 := HSY w_68 K_69
      have HO_71 : Hid (OwnP w_68 (.slice pb n cb) g2 n F) := OwnP.kq HOD gk
      clear gk
      refine hK.out _ _ (fun _ => S_70) ?_
      clear hK K
      try simp only [Act.put, List.setIfInBounds_toArray, List.set_cons_zero, List.set_cons_succ]
      refine AnyL.two 3 4 rfl rfl (by kernel_rfl) rfl rfl ?_ ?_
      · intro K hK
        go_simp
        refine (HIG (w_68) _ _ HO_71).mono ?_
        rintro e w_72 ⟨⟨yk2, ym2, yg2, yx2, yr2⟩, rfl, hgy, gk⟩
        try unfold vv
        dsimp only
        have HGY : Hid (Ga ⟨yk2, ym2, yg2, yx2, yr2⟩) := hgy
        clear hgy
        have K_73 : Hid (Kq w6 w_72) := Kq.trans K_69 gk
        have S_74 := HSY w_72 K_73
        have HO_75 : Hid (OwnP w_72 (.slice pb n cb) g2 n F) := OwnP.kq HO_71 gk
        clear gk
        refine hK.out _ _ (fun _ => S_74) ?_
        clear hK K
        try simp only [Act.put, List.setIfInBounds_toArray, List.set_cons_zero, List.set_cons_succ]
        refine AnyL.oneAt 4 rfl (by kernel_rfl) rfl ?_
        intro K hK
        go_simp
        obtain ⟨Z_80, hZ⟩ : ∃ Z, Z = (w_72).heap.size := ⟨_, rfl⟩
        obtain ⟨w_76, hWn⟩ : ∃ Wn, Wn = ((w_72).alloc (.cells #[.int .i64 0, .int .i64 0, .float .f64 0, .string ⟨#[]⟩, .int .i64 0] 26)) := ⟨_, rfl⟩
        have gk : Kq (w_72) w_76 := by rw [hWn]; exact kq_alloc _ _ _
        have R_79 : Hid (Rw w_76 Z_80) := by rw [hWn, hZ]; exact Rw.new _ _
        have hz_81 : (w6).heap.size ≤ Z_80 := by rw [hZ]; exact (show Kq w6 (w_72) from K_73).size
        have K_77 : Hid (Kq w6 w_76) := Kq.trans K_73 gk
        have S_78 := HSY w_76 K_77
        have HO_82 : Hid (OwnP w_76 (.slice pb n cb) g2 n F) := OwnP.kq HO_75 gk
        have hWd : (w_72).alloc (.cells #[.int .i64 0, .int .i64 0, .float .f64 0, .string ⟨#[]⟩, .int .i64 0] 26) = w_76 := hWn.symm
        have hZd : (w_72).heap.size = Z_80 := hZ.symm
        try simp only [hWd]
        try rw [hWd]
        try rw [hZd]
        clear gk hWn hZ hWd hZd
        refine hK.out _ _ (fun _ => S_78) ?_
        clear hK K
        try simp only [Act.put, List.setIfInBounds_toArray, List.set_cons_zero, List.set_cons_succ]
        obtain ⟨r0, r1, r2, r3, r4, rz⟩ := (show Rw w_76 Z_80 from R_79)
        refine AnyL.oneAt 5 rfl (by kernel_rfl) rfl ?_
        intro K hK
        go_simp
        refine hK.out _ _ (fun h => absurd rfl h) ?_
        clear hK K
        refine AnyL.done (by kernel_rfl) ?_
        have HV := rw_set (show Rw w_76 Z_80 from R_79) yk2 ym2 yg2 yx2 yr2
        have HKF := s5_kq (show Kq w6 w_76 from K_77) hz_81 yk2 ym2 yg2 yx2 yr2
        have hWF : s5 w_76 Z_80 yk2 ym2 yg2 yx2 yr2 = s5 w_76 Z_80 yk2 ym2 yg2 yx2 yr2 := rfl
        obtain ⟨WF, hWF⟩ : ∃ WF, WF = s5 w_76 Z_80 yk2 ym2 yg2 yx2 yr2 := ⟨_, rfl⟩
        rw [← hWF] at HV HKF
        unfold s5 at hWF
        rw [← hWF]
        clear hWF
        go_wp2_with fail
        go_meet
        exact ⟨Z_80, ⟨yk2, ym2, yg2, yx2, yr2⟩, rfl, (⟨HKF, HV, HGY⟩ : _ ∧ _ ∧ _)⟩
      · intro K hK
        go_simp
        obtain ⟨Z_87, hZ⟩ : ∃ Z, Z = (w_68).heap.size := ⟨_, rfl⟩
        obtain ⟨w_83, hWn⟩ : ∃ Wn, Wn = ((w_68).alloc (.cells #[.int .i64 0, .int .i64 0, .float .f64 0, .string ⟨#[]⟩, .int .i64 0] 26)) := ⟨_, rfl⟩
        have gk : Kq (w_68) w_83 := by rw [hWn]; exact kq_alloc _ _ _
        have R_86 : Hid (Rw w_83 Z_87) := by rw [hWn, hZ]; exact Rw.new _ _
        have hz_88 : (w6).heap.size ≤ Z_87 := by rw [hZ]; exact (show Kq w6 (w_68) from K_69).size
        have K_84 : Hid (Kq w6 w_83) := Kq.trans K_69 gk
        have S_85 := HSY w_83 K_84
        have HO_89 : Hid (OwnP w_83 (.slice pb n cb) g2 n F) := OwnP.kq HO_71 gk
        have hWd : (w_68).alloc (.cells #[.int .i64 0, .int .i64 0, .float .f64 0, .string ⟨#[]⟩, .int .i64 0] 26) = w_83 := hWn.symm
        have hZd : (w_68).heap.size = Z_87 := hZ.symm
        try simp only [hWd]
        try rw [hWd]
        try rw [hZd]
        clear gk hWn hZ hWd hZd
        refine hK.out _ _ (fun _ => S_85) ?_
        clear hK K
        try simp only [Act.put, List.setIfInBounds_toArray, List.set_cons_zero, List.set_cons_succ]
        refine AnyL.oneAt 3 rfl (by kernel_rfl) rfl ?_
        intro K hK
        go_simp
        refine (HIG (w_83) _ _ HO_89).mono ?_
        rintro e w_90 ⟨⟨yk2, ym2, yg2, yx2, yr2⟩, rfl, hgy, gk⟩
        try unfold vv
        dsimp only
        have HGY : Hid (Ga ⟨yk2, ym2, yg2, yx2, yr2⟩) := hgy
        clear hgy
        have K_91 : Hid (Kq w6 w_90) := Kq.trans K_84 gk
        have S_92 := HSY w_90 K_91
        have R_93 : Hid (Rw w_90 Z_87) := Rw.kq R_86 gk
        have HO_94 : Hid (OwnP w_90 (.slice pb n cb) g2 n F) := OwnP.kq HO_89 gk
        clear gk
        refine hK.out _ _ (fun _ => S_92) ?_
        clear hK K
        try simp only [Act.put, List.setIfInBounds_toArray, List.set_cons_zero, List.set_cons_succ]
        obtain ⟨r0, r1, r2, r3, r4, rz⟩ := (show Rw w_90 Z_87 from R_93)
        refine AnyL.oneAt 5 rfl (by kernel_rfl) rfl ?_
        intro K hK
        go_simp
        refine hK.out _ _ (fun h => absurd rfl h) ?_
        clear hK K
        refine AnyL.done (by kernel_rfl) ?_
        have HV := rw_set (show Rw w_90 Z_87 from R_93) yk2 ym2 yg2 yx2 yr2
        have HKF := s5_kq (show Kq w6 w_90 from K_91) hz_88 yk2 ym2 yg2 yx2 yr2
        have hWF : s5 w_90 Z_87 yk2 ym2 yg2 yx2 yr2 = s5 w_90 Z_87 yk2 ym2 yg2 yx2 yr2 := rfl
        obtain ⟨WF, hWF⟩ : ∃ WF, WF = s5 w_90 Z_87 yk2 ym2 yg2 yx2 yr2 := ⟨_, rfl⟩
        rw [← hWF] at HV HKF
        unfold s5 at hWF
        rw [← hWF]
        clear hWF
        go_wp2_with fail
        go_meet
        exact ⟨Z_87, ⟨yk2, ym2, yg2, yx2, yr2⟩, rfl, (⟨HKF, HV, HGY⟩ : _ ∧ _ ∧ _)⟩
    · intro K hK
      go_simp
      obtain ⟨Z_99, hZ⟩ : ∃ Z, Z = (VD).heap.size := ⟨_, rfl⟩
      obtain ⟨w_95, hWn⟩ : ∃ Wn, Wn = ((VD).alloc (.cells #[.int .i64 0, .int .i64 0, .float .f64 0, .string ⟨#[]⟩, .int .i64 0] 26)) := ⟨_, rfl⟩
      have gk : Kq (VD) w_95 := by rw [hWn]; exact kq_alloc _ _ _
      have R_98 : Hid (Rw w_95 Z_99) := by rw [hWn, hZ]; exact Rw.new _ _
      have hz_100 : (w6).heap.size ≤ Z_99 := by rw [hZ]; exact (show Kq w6 (VD) from KD).size
      have K_96 : Hid (Kq w6 w_95) := Kq.trans KD gk
      have S_97 := HSY w_95 K_96
      have HO_101 : Hid (OwnP w_95 (.slice pb n cb) g2 n F) := OwnP.kq HOD gk
      have hWd : (VD).alloc (.cells #[.int .i64 0, .int .i64 0, .float .f64 0, .string ⟨#[]⟩, .int .i64 0] 26) = w_95 := hWn.symm
      have hZd : (VD).heap.size = Z_99 := hZ.symm
      try simp only [hWd]
      try rw [hWd]
      try rw [hZd]
      clear gk hWn hZ hWd hZd
      refine hK.out _ _ (fun _ => S_97) ?_
      clear hK K
      try simp only [Act.put, List.setIfInBounds_toArray, List.set_cons_zero, List.set_cons_succ]
      refine AnyL.oneAt 2 rfl (by kernel_rfl) rfl ?_
      intro K hK
      go_simp
      refine (HTV (w_95)).mono ?_
      rintro e w_102 ⟨rfl, gk'⟩
      have gk : Kq _ w_102 := .of_grown gk'
      clear gk'
      have K_103 : Hid (Kq w6 w_102) := Kq.trans K_96 gk
      have S_104 := HSY w_102 K_103
      have R_105 : Hid (Rw w_102 Z_99) := Rw.kq R_98 gk
      have HO_106 : Hid (OwnP w_102 (.slice pb n cb) g2 n F) := OwnP.kq HO_101 gk
      clear gk
      refine hK.out _ _ (fun _ => S_104) ?_
      clear hK K
      try simp only [Act.put, List.setIfInBounds_toArray, List.set_cons_zero, List.set_cons_succ]
      refine AnyL.oneAt 3 rfl (by kernel_rfl) rfl ?_
      intro K hK
      go_simp
      refine (HIG (w_102) _ _ HO_106).mono ?_
      rintro e w_107 ⟨⟨yk2, ym2, yg2, yx2, yr2⟩, rfl, hgy, gk⟩
      try unfold vv
      dsimp only
      have HGY : Hid (Ga ⟨yk2, ym2, yg2, yx2, yr2⟩) := hgy
      clear hgy
      have K_108 : Hid (Kq w6 w_107) := Kq.trans K_103 gk
      have S_109 := HSY w_107 K_108
      have R_110 : Hid (Rw w_107 Z_99) := Rw.kq R_105 gk
      have HO_111 : Hid (OwnP w_107 (.slice pb n cb) g2 n F) := OwnP.kq HO_106 gk
      clear gk
      refine hK.out _ _ (fun _ => S_109) ?_
      clear hK K
      try simp only [Act.put, List.setIfInBounds_toArray, List.set_cons_zero, List.set_cons_succ]
      obtain ⟨r0, r1, r2, r3, r4, rz⟩ := (show Rw w_107 Z_99 from R_110)
      refine AnyL.oneAt 5 rfl (by kernel_rfl) rfl ?_
      intro K hK
      go_simp
      refine hK.out _ _ (fun h => absurd rfl h) ?_
      clear hK K
      refine AnyL.done (by kernel_rfl) ?_
      have HV := rw_set (show Rw w_107 Z_99 from R_110) yk2 ym2 yg2 yx2 yr2
      have HKF := s5_kq (show Kq w6 w_107 from K_108) hz_100 yk2 ym2 yg2 yx2 yr2
      have hWF : s5 w_107 Z_99 yk2 ym2 yg2 yx2 yr2 = s5 w_107 Z_99 yk2 ym2 yg2 yx2 yr2 := rfl
      obtain ⟨WF, hWF⟩ : ∃ WF, WF = s5 w_107 Z_99 yk2 ym2 yg2 yx2 yr2 := ⟨_, rfl⟩
      rw [← hWF] at HV HKF
      unfold s5 at hWF
      rw [← hWF]
      clear hWF
      go_wp2_with fail
      go_meet
      exact ⟨Z_99, ⟨yk2, ym2, yg2, yx2, yr2⟩, rfl, (⟨HKF, HV, HGY⟩ : _ ∧ _ ∧ _)⟩
  case rest =>
  obtain ⟨Z2, y2, rfl, HF2⟩ := hcut
  have hF2 := (show Kq w6 wc ∧ Vc wc Z2 y2 ∧ Ga y2 from HF2)
  obtain rfl : y2 = ⟨yk, ym, yg, yx, yr⟩ := (show ∀ y z, Ga y → Ga z → y = z from HUQ) _ _ hF2.2.2 HGY1
  have HEQ := fun w => eq_val ⟨yk, ym, yg, yx, yr⟩ ((show ∀ y, Ga y → _ from HGLT) _ HGY1) w
  unfold vv at HEQ
  dsimp only at HEQ
  obtain ⟨c0, c1, c2, c3, c4⟩ := (show Vc w6 Z ⟨yk, ym, yg, yx, yr⟩ from HZ6).kq hF2.1
  obtain ⟨d0, d1, d2, d3, d4⟩ := hF2.2.1
  dsimp only at c0 c1 c2 c3 c4 d0 d1 d2 d3 d4
  have HKC : Hid (Kq w6 wc) := hF2.1
  clear hF2 HF2 HIG HGLT HUQ HGY1 HZ6 HTV
  go_wp2_with fail
  refine (HEQ _).mono ?_
  rintro e w7 ⟨rfl, g7⟩
  have HK67 : Hid (Kq w6 w7) := Kq.trans HKC (.of_grown g7)
  have HK7 : Hid (Kq w1 w7) := Kq.trans HK6 HK67
  clear g7 HEQ c0 c1 c2 c3 c4 d0 d1 d2 d3 d4 HKC
  have HSS : Hid (∀ W', Kq w7 W' → W'.cell? ⟨w.heap.size, 0, none⟩ = some (.slice pa n ca) ∧ W'.cell? ⟨w.heap.size, 1, none⟩ = some (.int .i64 T) ∧ W'.cell? ⟨X, 0, none⟩ = some (.slice pb n cb) ∧ W'.cell? ⟨X, 1, none⟩ = some (.int .i64 T)) := (fun W' q => ⟨(HSX W' (Kq.trans HK7 q)).1, (HSX W' (Kq.trans HK7 q)).2.1, ((show ∀ W, Kq w6 W → _ from HX6) W' (Kq.trans HK67 q)).1, ((show ∀ W, Kq w6 W → _ from HX6) W' (Kq.trans HK67 q)).2⟩ : ∀ W', Kq w7 W' → _)
  clear HX6 HSY HSX HSX0
  go_wp2_with fail
  refine AnyL.region (S := fun W' : World => W'.cell? ⟨w.heap.size, 0, none⟩ = some (.slice pa n ca) ∧ W'.cell? ⟨w.heap.size, 1, none⟩ = some (.int .i64 T) ∧ W'.cell? ⟨X, 0, none⟩ = some (.slice pb n cb) ∧ W'.cell? ⟨X, 1, none⟩ = some (.int .i64 T)) (z := 99) (by kernel_rfl) ?_
  have hS0 : (fun W' : World => W'.cell? ⟨w.heap.size, 0, none⟩ = some (.slice pa n ca) ∧ W'.cell? ⟨w.heap.size, 1, none⟩ = some (.int .i64 T) ∧ W'.cell? ⟨X, 0, none⟩ = some (.slice pb n cb) ∧ W'.cell? ⟨X, 1, none⟩ = some (.int .i64 T)) w7.drew := (show ∀ W', Kq w7 W' → W'.cell? ⟨w.heap.size, 0, none⟩ = some (.slice pa n ca) ∧ W'.cell? ⟨w.heap.size, 1, none⟩ = some (.int .i64 T) ∧ W'.cell? ⟨X, 0, none⟩ = some (.slice pb n cb) ∧ W'.cell? ⟨X, 1, none⟩ = some (.int .i64 T) from HSS) w7.drew (Kq.drew (Kq.refl _))
  refine AnyL.takeAt 0 (.agg #[.slice pb n cb, .int .i64 T]) rfl (by kernel_rfl) (by kernel_rfl) (by kernel_rfl) (by kernel_rfl) (fun _ _ _ h => h) rfl hS0 (by intro W hW; obtain ⟨q0, q1, q2, q3⟩ := hW; go_simp) ?_
  try simp only [Act.put, List.setIfInBounds_toArray, List.set_cons_zero, List.set_cons_succ]
  refine AnyL.takeAt 1 (.agg #[.slice pa n ca, .int .i64 T]) rfl (by kernel_rfl) (by kernel_rfl) (by kernel_rfl) (by kernel_rfl) (fun _ _ _ h => h) rfl hS0 (by intro W hW; obtain ⟨q0, q1, q2, q3⟩ := hW; go_simp) ?_
  try simp only [Act.put, List.setIfInBounds_toArray, List.set_cons_zero, List.set_cons_succ]
  refine AnyL.oneAt 2 rfl (by kernel_rfl) rfl ?_
  intro K hK
  go_simp
  refine ((show ∀ W, Kq w1 W → _ from HTH) w7.drew (Kq.drew HK7)).mono ?_
  rintro e w8 ⟨v3, g3, rfl, ho3, _, _, k8⟩
  have K8 : Hid (Kq w7 w8) := Kq.trans (Kq.drew (Kq.refl _)) k8
  have hS8 := (show ∀ W', Kq w7 W' → W'.cell? ⟨w.heap.size, 0, none⟩ = some (.slice pa n ca) ∧ W'.cell? ⟨w.heap.size, 1, none⟩ = some (.int .i64 T) ∧ W'.cell? ⟨X, 0, none⟩ = some (.slice pb n cb) ∧ W'.cell? ⟨X, 1, none⟩ = some (.int .i64 T) from HSS) w8 K8
  have HE : Hid (Calls Try.prog 18 #[.agg #[.slice pb n cb, .int .i64 T], .agg #[v3, .int .i64 T]] w8 fun e w' => e = .returned (.bool true) ∧ Kq w8 w') := eq_table T w8 (OwnP.kq HO6 (Kq.trans HK67 K8)) ho3 (show Tb n F from TBH).len (fun i hi => ⟨((show Tb n F from TBH).a i hi).g, ((show Tb n F from TBH).b i hi).g⟩)
  obtain ⟨p3, c3, rfl, _⟩ := ho3.sl
  clear k8 ho3
  refine hK.out _ _ (fun _ => hS8) ?_
  clear hK K
  try simp only [Act.put, List.setIfInBounds_toArray, List.set_cons_zero, List.set_cons_succ]
  refine AnyL.oneAt 3 rfl (by kernel_rfl) rfl ?_
  intro K hK
  go_simp
  refine (show Calls Try.prog 18 #[.agg #[.slice pb n cb, .int .i64 T], .agg #[.slice p3 n c3, .int .i64 T]] w8 _ from HE).mono ?_
  rintro e w9 ⟨rfl, k9⟩
  have hS9 := (show ∀ W', Kq w7 W' → W'.cell? ⟨w.heap.size, 0, none⟩ = some (.slice pa n ca) ∧ W'.cell? ⟨w.heap.size, 1, none⟩ = some (.int .i64 T) ∧ W'.cell? ⟨X, 0, none⟩ = some (.slice pb n cb) ∧ W'.cell? ⟨X, 1, none⟩ = some (.int .i64 T) from HSS) w9 (Kq.trans K8 k9)
  have KE : Hid (Kq w w9) := Kq.trans HK (Kq.trans HK7 (Kq.trans K8 k9))
  clear k9
  refine hK.out _ _ (fun _ => hS9) ?_
  clear hK K
  try simp only [Act.put, List.setIfInBounds_toArray, List.set_cons_zero, List.set_cons_succ]
  refine AnyL.takeAt 4 (.bool false) rfl (by kernel_rfl) (by kernel_rfl) (by kernel_rfl) (by kernel_rfl) (fun _ _ _ h => h) rfl hS9 (by intro W hW; go_simp) ?_
  try simp only [Act.put, List.setIfInBounds_toArray, List.set_cons_zero, List.set_cons_succ]
  refine AnyL.done (by kernel_rfl) ?_
  clear hS0 hS8 hS9 HSS HE HTH TBH HO6 HK7 HK67 K8
  go_wp2_with fail
  go_ret
  exact ⟨rfl, KE⟩
end Go.Proofs.Ytfpidccjcemcjaa
namespace Go.Proofs.Ytfpidccjcemcjaa
open Go.ChangeShapes Go.WideShapes Go.ChangeAt Go.RowKit
set_option linter.unusedVariables false
set_option maxRecDepth 100000
/-- what becomes of a pair -/
noncomputable def put1 (u y : Vv) (p : Pv) : List Pv := if dc (mk p.a = mk u) then (if y.k = 0 then [] else [⟨p.a, y, p.t⟩]) else (if p.b.k = 0 then [] else [p])
noncomputable def putl (F : Nat → Pv) (u y : Vv) : Nat → List Pv
  | 0 => []
  | i + 1 => putl F u y i ++ put1 u y (F i)
theorem putl_len (F : Nat → Pv) (u y : Vv) : ∀ i, (putl F u y i).length ≤ i
  | 0 => Nat.le_refl _
  | i + 1 => by
    have h := putl_len F u y i
    have h1 : (put1 u y (F i)).length ≤ 1 := by unfold put1; split <;> split <;> simp
    show (putl F u y i ++ put1 u y (F i)).length ≤ i + 1
    rw [List.length_append]
    omega
def met (F : Nat → Pv) (u : Vv) (i : Nat) : Prop := ∃ j, j < i ∧ mk (F j).a = mk u
/-- what a table becomes by Put -/
def Pt (n : Nat) (F : Nat → Pv) (T : Int) (u y : Vv) (L : List Pv) (T' : Int) : Prop :=
  ((¬ met F u n ∧ ¬ y.k = 0 ∧ n < 500 ∧ T < 1000000000000) ∧ L = putl F u y n ++ [⟨u, y, T + 1⟩] ∧ T' = T + 1) ∨ (¬ (¬ met F u n ∧ ¬ y.k = 0 ∧ n < 500 ∧ T < 1000000000000) ∧ L = putl F u y n ∧ T' = T)
/-- a table being made -/
structure Po (w : World) (B : Nat) (pre : List Pv) (v : Value) (T : Int) (W : World) : Prop where
  kq : Kq w W
  lo : w.heap.size ≤ B
  ob : W.heap[B]? = some (.cells #[v, .int .i64 T] 40 (0, 0))
  row : W.ownsRow (B + 1) 51 11 v pre.length (pre.flatMap pcl)
theorem Po.lt {w : World} {B : Nat} {pre : List Pv} {v : Value} {T : Int} {W : World} (h : Po w B pre v T W) : B < W.heap.size := lt_of_obj h.ob
theorem Po.on {w : World} {B : Nat} {pre : List Pv} {v : Value} {T : Int} {W W' : World} (h : Po w B pre v T W) (k : Kq W W') : Po w B pre v T W' :=
  ⟨h.kq.trans k, h.lo, (k.block _ h.lt).trans h.ob, rowBlk h.row (fun g e => k.block g (h.row.lt g e).2)⟩
theorem Po.shape {w : World} {B : Nat} {pre : List Pv} {v : Value} {T : Int} {W : World} (h : Po w B pre v T W) : ∃ (ad : Option Addr) (cap : Nat), v = .slice ad pre.length cap := by
  rcases h.row.2 with ⟨rfl, e⟩ | ⟨g, cap, cur, rfl, _⟩
  · exact ⟨none, 0, by rw [show pre.length = 0 from e]⟩
  · exact ⟨_, cap, rfl⟩
theorem Po.add {w : World} {B : Nat} {pre : List Pv} {v v' : Value} {T : Int} {A w7 : World} {E : Obj} {p : Pv} (h : Po w B pre v T A) (ho : w7.ownsRow (B + 1) 51 11 v' (pre.length + 1) (pre.flatMap pcl ++ pcl p)) (hg : (A.alloc E).grownBy w7 v.ownBlock) :
    w7.cell? ⟨B, 0, none⟩ = some v ∧ w7.frozen? ⟨B, 0, none⟩ = false ∧ Po w B (pre ++ [p]) v' T (w7.setCell ⟨B, 0, none⟩ v') := by
  have hblk : ∀ k, k < A.heap.size → some k ≠ v.ownBlock → w7.heap[k]? = A.heap[k]? := fun k hk hne => (hg.block k (by simp; omega) hne).trans (Below.heap_alloc _ _ _ hk)
  have hlow : ∀ k, k ≤ B → w7.heap[k]? = A.heap[k]? := fun k hk => hblk k (by have := h.lt; omega) (fun e2 => by have := (h.row.lt k e2.symm).1; omega)
  have hf := (hlow B (Nat.le_refl _)).trans h.ob
  have hgs := hg.size
  simp at hgs
  have hse : ∀ k, k ≠ B → (w7.setCell ⟨B, 0, none⟩ v').heap[k]? = w7.heap[k]? := fun k hne => Below.heap_setCell w7 _ _ _ hne
  have hlo := h.lo
  refine ⟨by simp [World.cell?, hf], by simp [World.frozen?, hf], ⟨hg.os.trans h.kq.os, hg.output.trans h.kq.output, by have := h.kq.size; simp; omega, fun k hk => ?_⟩, h.lo, ?_, ?_⟩
  · rw [hse k (by omega), hlow k (by omega)]
    exact h.kq.block k hk
  · simp [World.setCell, Array.getElem?_modify, hf]
  · rw [List.length_append, List.flatMap_append]
    refine rowBlk (W := w7) (by simpa using ho) (fun g e2 => hse g ?_)
    have := (ho.lt g e2).1
    omega
theorem Po.turn {w : World} {B : Nat} {pre : List Pv} {v : Value} {T : Int} {W : World} (h : Po w B pre v T W) (t : Int) : Po w B pre v t (W.setCell ⟨B, 1, none⟩ (.int .i64 t)) := by
  have hse : ∀ k, k ≠ B → (W.setCell ⟨B, 1, none⟩ (.int .i64 t)).heap[k]? = W.heap[k]? := fun k hne => Below.heap_setCell W _ _ _ hne
  have hlo := h.lo
  refine ⟨⟨h.kq.os, h.kq.output, by have := h.kq.size; simpa using this, fun k hk => (hse k (by omega)).trans (h.kq.block k hk)⟩, h.lo, ?_, rowBlk h.row (fun g e => hse g (by have := (h.row.lt g e).1; omega))⟩
  simp [World.setCell, Array.getElem?_modify, h.ob]
/-- a value set into a pair -/
def s5p (W : World) (B : Nat) (k m : Int) (g : Nat) (x : ByteArray) (r : Int) : World := ((((W.setCell ⟨B, 5, none⟩ (.int .i64 k)).setCell ⟨B, 6, none⟩ (.int .i64 m)).setCell ⟨B, 7, none⟩ (.float .f64 g)).setCell ⟨B, 8, none⟩ (.string x)).setCell ⟨B, 9, none⟩ (.int .i64 r)
theorem s5p_other (W : World) (B : Nat) (k m : Int) (g : Nat) (x : ByteArray) (r : Int) (b : Nat) (h : b ≠ B) : (s5p W B k m g x r).heap[b]? = W.heap[b]? := by
  unfold s5p
  rw [Below.heap_setCell _ _ _ _ h, Below.heap_setCell _ _ _ _ h, Below.heap_setCell _ _ _ _ h, Below.heap_setCell _ _ _ _ h, Below.heap_setCell _ _ _ _ h]
theorem s5p_at {W : World} {B : Nat} {p : Pv} {t : TypeId} (h : W.heap[B]? = some (.cells #[.int .i64 p.a.k, .int .i64 p.a.m, .float .f64 p.a.g, .string p.a.x, .int .i64 p.a.r, .int .i64 p.b.k, .int .i64 p.b.m, .float .f64 p.b.g, .string p.b.x, .int .i64 p.b.r, .int .i64 p.t] t (0, 0))) (k m : Int) (g : Nat) (x : ByteArray) (r : Int) : (s5p W B k m g x r).heap[B]? = some (.cells #[.int .i64 p.a.k, .int .i64 p.a.m, .float .f64 p.a.g, .string p.a.x, .int .i64 p.a.r, .int .i64 k, .int .i64 m, .float .f64 g, .string x, .int .i64 r, .int .i64 p.t] t (0, 0)) := by
  unfold s5p
  simp [World.setCell, Array.getElem?_modify, h]
theorem s5p_size (W : World) (B : Nat) (k m : Int) (g : Nat) (x : ByteArray) (r : Int) : (s5p W B k m g x r).heap.size = W.heap.size := by unfold s5p; simp
theorem s5p_os (W : World) (B : Nat) (k m : Int) (g : Nat) (x : ByteArray) (r : Int) : (s5p W B k m g x r).os = W.os ∧ (s5p W B k m g x r).output = W.output := by unfold s5p; constructor <;> simp [World.setCell]
theorem Po.st {w : World} {B : Nat} {pre : List Pv} {v : Value} {T : Int} {W : World} (h : Po w B pre v T W) {b : Nat} (hb : B < b) (hv : some b ≠ v.ownBlock) (k m : Int) (g : Nat) (x : ByteArray) (r : Int) : Po w B pre v T (s5p W b k m g x r) := by
  have hlo := h.lo
  have ho := s5p_os W b k m g x r
  have hx : ∀ c, c ≠ b → (s5p W b k m g x r).heap[c]? = W.heap[c]? := fun c hc => s5p_other W b k m g x r c hc
  have hz := s5p_size W b k m g x r
  generalize s5p W b k m g x r = W' at ho hx hz ⊢
  refine ⟨⟨ho.1.trans h.kq.os, ho.2.trans h.kq.output, by rw [hz]; exact h.kq.size, fun c hc => (hx c (by omega)).trans (h.kq.block c hc)⟩, h.lo, (hx B (by omega)).trans h.ob, rowBlk h.row (fun c e => hx c (fun q => hv (by rw [e, q])))⟩
theorem Pb.blk {W : World} {B : Nat} {p : Pv} {t : TypeId} (h : W.heap[B]? = some (.cells #[.int .i64 p.a.k, .int .i64 p.a.m, .float .f64 p.a.g, .string p.a.x, .int .i64 p.a.r, .int .i64 p.b.k, .int .i64 p.b.m, .float .f64 p.b.g, .string p.b.x, .int .i64 p.b.r, .int .i64 p.t] t (0, 0))) : Pb W B p ∧ ∀ j, W.frozen? ⟨B, j, none⟩ = false :=
  ⟨⟨cell_of h rfl, cell_of h rfl, cell_of h rfl, cell_of h rfl, cell_of h rfl, cell_of h rfl, cell_of h rfl, cell_of h rfl, cell_of h rfl, cell_of h rfl, cell_of h rfl⟩, fun j => by simp [World.frozen?, h]⟩
end Go.Proofs.Ytfpidccjcemcjaa
namespace Go.Proofs.Ytfpidccjcemcjaa
open Go.ChangeShapes Go.WideShapes Go.ChangeAt Go.RowKit
set_option linter.unusedVariables false
set_option maxRecDepth 100000
theorem four_new (w : World) (c0 c1 c2 c3 : Array Value) (t0 t1 t2 t3 : TypeId) (w4 : World) (h : w4 = (((w.alloc (.cells c0 t0)).alloc (.cells c1 t1)).alloc (.cells c2 t2)).alloc (.cells c3 t3)) : w4.heap[w.heap.size]? = some (.cells c0 t0 (0, 0)) ∧ w4.heap[w.heap.size + 1]? = some (.cells c1 t1 (0, 0)) ∧ w4.heap[w.heap.size + 2]? = some (.cells c2 t2 (0, 0)) ∧ w4.heap[w.heap.size + 3]? = some (.cells c3 t3 (0, 0)) ∧ w4.heap.size = w.heap.size + 4 ∧ Kq w w4 := by
  obtain ⟨a0, a1, a2, a3, a4⟩ := three_new w _ _ _ _ _ _ _ (rfl : ((w.alloc (.cells c0 t0)).alloc (.cells c1 t1)).alloc (.cells c2 t2) = _)
  have q := alloc_new (((w.alloc (.cells c0 t0)).alloc (.cells c1 t1)).alloc (.cells c2 t2)) (.cells c3 t3)
  have k := kq_alloc (((w.alloc (.cells c0 t0)).alloc (.cells c1 t1)).alloc (.cells c2 t2)) c3 t3
  rw [a3] at q
  rw [h]
  exact ⟨(k.block _ (by omega)).trans a0, (k.block _ (by omega)).trans a1, (k.block _ (by omega)).trans a2, q, by rw [World.size_alloc, a3], a4.trans k⟩
theorem row_mono {W : World} {b b' e size : Nat} {v : Value} {n : Nat} {xs : List Value} (h : W.ownsRow b e size v n xs) (hb : b' ≤ b) : W.ownsRow b' e size v n xs := by
  refine ⟨h.1, ?_⟩
  rcases h.2 with h | ⟨g, cap, cur, e1, e2, e3⟩
  · exact .inl h
  · exact .inr ⟨g, cap, cur, e1, Nat.le_trans hb e2, e3⟩
/-- a table set into its two cells -/
def s2 (W : World) (B : Nat) (v t : Value) : World := (W.setCell ⟨B, 0, none⟩ v).setCell ⟨B, 1, none⟩ t
theorem s2_other (W : World) (B : Nat) (v t : Value) (b : Nat) (h : b ≠ B) : (s2 W B v t).heap[b]? = W.heap[b]? := by
  unfold s2
  rw [Below.heap_setCell _ _ _ _ h, Below.heap_setCell _ _ _ _ h]
theorem s2_at {W : World} {B : Nat} {a b v t : Value} {ty : TypeId} (h : W.heap[B]? = some (.cells #[a, b] ty (0, 0))) : (s2 W B v t).heap[B]? = some (.cells #[v, t] ty (0, 0)) := by
  unfold s2
  simp [World.setCell, Array.getElem?_modify, h]
theorem s2_os (W : World) (B : Nat) (v t : Value) : (s2 W B v t).os = W.os ∧ (s2 W B v t).output = W.output ∧ (s2 W B v t).heap.size = W.heap.size := by
  unfold s2; refine ⟨?_, ?_, ?_⟩ <;> simp [World.setCell]
theorem s2_kq {w W : World} {B : Nat} (h : Kq w W) (hb : w.heap.size ≤ B) (v t : Value) : Kq w (s2 W B v t) := by
  obtain ⟨h1, h2, h3⟩ := s2_os W B v t
  exact ⟨h1.trans h.os, h2.trans h.output, by rw [h3]; exact h.size, fun b q => (s2_other W B v t b (by omega)).trans (h.block b q)⟩
/-- a table answered -/
theorem Po.fin {w w4 : World} {L : List Pv} {v : Value} {T : Int} {W : World} (h : Po w4 (w.heap.size + 4) L v T W) (k : Kq w w4) (hz : w4.heap.size = w.heap.size + 4) (hr : w4.heap[w.heap.size + 3]? = some (.cells #[.slice none 0 0, .int .i64 0] 40 (0, 0))) :
    W.cell? ⟨w.heap.size + 3, 0, none⟩ = some (.slice none 0 0) ∧ W.cell? ⟨w.heap.size + 3, 1, none⟩ = some (.int .i64 0) ∧ W.frozen? ⟨w.heap.size + 3, 0, none⟩ = false ∧ W.frozen? ⟨w.heap.size + 3, 1, none⟩ = false ∧
    (s2 W (w.heap.size + 3) v (.int .i64 T)).cell? ⟨w.heap.size + 3, 0, none⟩ = some v ∧ (s2 W (w.heap.size + 3) v (.int .i64 T)).cell? ⟨w.heap.size + 3, 1, none⟩ = some (.int .i64 T) ∧ (s2 W (w.heap.size + 3) v (.int .i64 T)).ownsRow w.heap.size 51 11 v L.length (L.flatMap pcl) ∧ Kq w (s2 W (w.heap.size + 3) v (.int .i64 T)) := by
  have hb := (h.kq.block (w.heap.size + 3) (by omega)).trans hr
  have hs := s2_at (v := v) (t := .int .i64 T) hb
  refine ⟨cell_of hb rfl, cell_of hb rfl, by simp [World.frozen?, hb], by simp [World.frozen?, hb], cell_of hs rfl, cell_of hs rfl, ?_, s2_kq (k.trans h.kq) (by omega) _ _⟩
  refine row_mono (b := w.heap.size + 4 + 1) (rowBlk h.row (fun g e => s2_other _ _ _ _ g ?_)) (by omega)
  have := (h.row.lt g e).1
  omega
set_option maxHeartbeats 16000000 in
theorem sp_put0 {v : Value} {g n : Nat} {F : Nat → Pv} (T : Int) (u y : Vv) (hu : Uk u) (w : World) (ha : OwnP w v g n F) (tb : Tb n F) (ht : tok n F T) : Calls Try.prog 48 #[.agg #[v, .int .i64 T], vv u, vv y] w fun e w' => ∃ v' L T', e = .returned (.agg #[v', .int .i64 T']) ∧ Pt n F T u y L T' ∧ w'.ownsRow w.heap.size 51 11 v' L.length (L.flatMap pcl) ∧ Kq w w' := by
  obtain ⟨pa, ca, rfl, ha2⟩ := ha.sl
  have hnI : (n : Int) ≤ 500 := by have := ht.1; omega
  have hT0 : 0 ≤ T := ht.2.1
  have hT1 : T ≤ 1000000000000 := ht.2.2.1
  have HA : Hid ((0 < n → pa = some ⟨g, 0, none⟩ ∧ n ≤ ca) ∧ (∀ i, i < n → Cp w ⟨g, i * 11, none⟩ (F i))) := (⟨ha2, ha.ce⟩ : _ ∧ _)
  have HSM : Hid (∀ j, j < n → ∀ w, Calls Try.prog 41 #[vv (F j).a, vv u] w fun e w' => e = .returned (.bool (dc (mk (F j).a = mk u))) ∧ Grown w w') := (fun j hj w => sp_same _ _ (ht.2.2.2 j hj).1 hu.key (tb.a j hj) hu.vb (tb.xa j hj) hu.sz w : ∀ j, j < n → ∀ w, _)
  have HPL : Hid (∀ i, (putl F u y i).length ≤ i ∧ putl F u y (i + 1) = putl F u y i ++ (if dc (mk (F i).a = mk u) then (if y.k = 0 then [] else [⟨(F i).a, y, (F i).t⟩]) else (if (F i).b.k = 0 then [] else [F i]))) := (fun i => ⟨putl_len F u y i, rfl⟩ : ∀ i, _)
  have HPT : Hid ((∀ L T', Pt n F T u y L T' ↔ (((¬ met F u n ∧ ¬ y.k = 0 ∧ n < 500 ∧ T < 1000000000000) ∧ L = putl F u y n ++ [⟨u, y, T + 1⟩] ∧ T' = T + 1) ∨ (¬ (¬ met F u n ∧ ¬ y.k = 0 ∧ n < 500 ∧ T < 1000000000000) ∧ L = putl F u y n ∧ T' = T))) ∧ putl F u y 0 = []) := (⟨fun L T' => Iff.rfl, rfl⟩ : _ ∧ _)
  have HMT : Hid (∀ i, met F u (i + 1) ↔ (met F u i ∨ mk (F i).a = mk u)) := (fun i => by
    unfold met
    constructor
    · rintro ⟨j, hj, e⟩
      by_cases q : j = i
      · subst q; exact .inr e
      · exact .inl ⟨j, by omega, e⟩
    · rintro (⟨j, hj, e⟩ | e)
      · exact ⟨j, by omega, e⟩
      · exact ⟨i, by omega, e⟩ : ∀ i, _)
  have hm0 : dc (met F u 0) = false := dc_f (fun ⟨j, hj, _⟩ => by omega)
  clear tb ht hu ha ha2
  generalize mk u = mu at HSM HPL HMT
  generalize putl F u y = pl at HPL HPT
  generalize Pt n F T u y = Pu at HPT ⊢
  generalize met F u = mt at HPT HMT hm0
  obtain ⟨uk, um, ug, ux, ur⟩ := u
  obtain ⟨yk, ym, yg, yx, yr⟩ := y
  unfold vv at HSM ⊢
  dsimp only at HSM HPL HPT ⊢
  obtain ⟨w4, hw4⟩ : ∃ w4, w4 = (((w.alloc (.cells #[.slice pa n ca, .int .i64 T] 40)).alloc (.cells #[.int .i64 uk, .int .i64 um, .float .f64 ug, .string ux, .int .i64 ur] 26)).alloc (.cells #[.int .i64 yk, .int .i64 ym, .float .f64 yg, .string yx, .int .i64 yr] 26)).alloc (.cells #[.slice none 0 0, .int .i64 0] 40) := ⟨_, rfl⟩
  obtain ⟨x0, x1, x2, x3, z4, k4⟩ := four_new w _ _ _ _ _ _ _ _ w4 hw4
  have HW4 : Hid (Kq w w4 ∧ w4.heap[w.heap.size]? = some (.cells #[.slice pa n ca, .int .i64 T] 40 (0, 0)) ∧ w4.heap[w.heap.size + 1]? = some (.cells #[.int .i64 uk, .int .i64 um, .float .f64 ug, .string ux, .int .i64 ur] 26 (0, 0)) ∧ w4.heap[w.heap.size + 2]? = some (.cells #[.int .i64 yk, .int .i64 ym, .float .f64 yg, .string yx, .int .i64 yr] 26 (0, 0)) ∧ w4.heap[w.heap.size + 3]? = some (.cells #[.slice none 0 0, .int .i64 0] 40 (0, 0)) ∧ w4.heap.size = w.heap.size + 4) := (⟨k4, x0, x1, x2, x3, z4⟩ : _ ∧ _ ∧ _ ∧ _ ∧ _ ∧ _)
  have HP0 : Hid (Po w4 (w.heap.size + 4) (pl 0) (.slice none 0 0) T (w4.alloc (.cells #[.slice none 0 0, .int .i64 T] 40))) := by
    rw [(show _ ∧ pl 0 = [] from HPT).2]
    exact ⟨kq_alloc _ _ _, by omega, by rw [← z4]; exact alloc_new _ _, World.ownsRow_nil _ _ _ _⟩
  have hst : ∀ (a : Addr) (n : Nat) (m : Mode) (w : World), (store a (.float .f64 n) m).run Try.prog w = stored Try.prog w a (.float .f64 n) m := fun a n m w => run_store _ _ _ _ _ rfl
  obtain ⟨i0, hi0, hz0, hz1, hz2⟩ := info_parts infoPair
  have HI0 : Hid (Try.prog.info? 51 = some i0) := hi0
  clear x0 x1 x2 x3 z4 k4 hi0
  obtain ⟨w5, hw5⟩ : ∃ w5, w5 = w4.alloc (.cells #[.slice none 0 0, .int .i64 T] 40) := ⟨_, rfl⟩
  rw [← hw5] at HP0
  rw [hw4] at hw5
  clear hw4
  go_enter Try.func48, Try.ntmps48
  go_wp2_with fail
  rw [← hw5]
  clear hw5
  go_loopw [8, 17] (fun s8 s17 wr => ∃ i : Nat, s8 = .bool (dc (mt i)) ∧ s17 = .int .i64 (i : Int) ∧ i ≤ n ∧ Hid (∃ v, Po w4 (w.heap.size + 4) (pl i) v T wr)) (fun _ s17 _ => n - (intOf s17).toNat)
  case atStart => exact ⟨0, by rw [hm0], rfl, Nat.zero_le _, (⟨_, HP0⟩ : ∃ v, Po w4 (w.heap.size + 4) (pl 0) v T w5)⟩
  case round =>
    clear HP0 hm0
    obtain ⟨i, rfl, rfl, hin, HI⟩ := hrel
    obtain ⟨v, hP⟩ := (show ∃ v, Po w4 (w.heap.size + 4) (pl i) v T wr from HI)
    obtain ⟨ad, cap, rfl⟩ := hP.shape
    clear HI
    rcases Nat.lt_or_ge i n with hi | hi
    case inr =>
      obtain rfl : i = n := by omega
      have hW := (show Kq w w4 ∧ w4.heap[w.heap.size]? = some (.cells #[.slice pa i ca, .int .i64 T] 40 (0, 0)) ∧ w4.heap[w.heap.size + 1]? = some (.cells #[.int .i64 uk, .int .i64 um, .float .f64 ug, .string ux, .int .i64 ur] 26 (0, 0)) ∧ w4.heap[w.heap.size + 2]? = some (.cells #[.int .i64 yk, .int .i64 ym, .float .f64 yg, .string yx, .int .i64 yr] 26 (0, 0)) ∧ w4.heap[w.heap.size + 3]? = some (.cells #[.slice none 0 0, .int .i64 0] 40 (0, 0)) ∧ w4.heap.size = w.heap.size + 4 from HW4)
      have c0 := hP.kq.cell (cell_of hW.2.1 (j := 0) rfl)
      have c1 := hP.kq.cell (cell_of hW.2.1 (j := 1) rfl)
      have y0 := hP.kq.cell (cell_of hW.2.2.2.1 (j := 0) rfl)
      have hiI : ¬ (i : Int) < (i : Int) := by omega
      have HPO : Hid (Po w4 (w.heap.size + 4) (pl i) (.slice ad (pl i).length cap) T wr) := hP
      have hpt := (show (∀ L T', Pu L T' ↔ _) ∧ _ from HPT).1
      clear hP hW
      by_cases hadd : ¬ mt i ∧ ¬ yk = 0 ∧ i < 500 ∧ T < 1000000000000
      case neg =>
        have hp : Pu (pl i) T := (hpt _ _).2 (.inr ⟨hadd, rfl, rfl⟩)
        clear hpt
        obtain ⟨r0, r1, z0, z1, e0, e1, HRW, HKQ⟩ := Po.fin (show Po w4 (w.heap.size + 4) (pl i) (.slice ad (pl i).length cap) T wr from HPO) (show Kq w w4 ∧ w4.heap[w.heap.size]? = some (.cells #[.slice pa i ca, .int .i64 T] 40 (0, 0)) ∧ w4.heap[w.heap.size + 1]? = some (.cells #[.int .i64 uk, .int .i64 um, .float .f64 ug, .string ux, .int .i64 ur] 26 (0, 0)) ∧ w4.heap[w.heap.size + 2]? = some (.cells #[.int .i64 yk, .int .i64 ym, .float .f64 yg, .string yx, .int .i64 yr] 26 (0, 0)) ∧ w4.heap[w.heap.size + 3]? = some (.cells #[.slice none 0 0, .int .i64 0] 40 (0, 0)) ∧ w4.heap.size = w.heap.size + 4 from HW4).1 (show Kq w w4 ∧ w4.heap[w.heap.size]? = some (.cells #[.slice pa i ca, .int .i64 T] 40 (0, 0)) ∧ w4.heap[w.heap.size + 1]? = some (.cells #[.int .i64 uk, .int .i64 um, .float .f64 ug, .string ux, .int .i64 ur] 26 (0, 0)) ∧ w4.heap[w.heap.size + 2]? = some (.cells #[.int .i64 yk, .int .i64 ym, .float .f64 yg, .string yx, .int .i64 yr] 26 (0, 0)) ∧ w4.heap[w.heap.size + 3]? = some (.cells #[.slice none 0 0, .int .i64 0] 40 (0, 0)) ∧ w4.heap.size = w.heap.size + 4 from HW4).2.2.2.2.2 (show Kq w w4 ∧ w4.heap[w.heap.size]? = some (.cells #[.slice pa i ca, .int .i64 T] 40 (0, 0)) ∧ w4.heap[w.heap.size + 1]? = some (.cells #[.int .i64 uk, .int .i64 um, .float .f64 ug, .string ux, .int .i64 ur] 26 (0, 0)) ∧ w4.heap[w.heap.size + 2]? = some (.cells #[.int .i64 yk, .int .i64 ym, .float .f64 yg, .string yx, .int .i64 yr] 26 (0, 0)) ∧ w4.heap[w.heap.size + 3]? = some (.cells #[.slice none 0 0, .int .i64 0] 40 (0, 0)) ∧ w4.heap.size = w.heap.size + 4 from HW4).2.2.2.2.1
        have HFI : Hid (Pu (pl i) T ∧ (s2 wr (w.heap.size + 3) (.slice ad (pl i).length cap) (.int .i64 (T))).ownsRow w.heap.size 51 11 (.slice ad (pl i).length cap) ((pl i)).length (((pl i)).flatMap pcl) ∧ Kq w (s2 wr (w.heap.size + 3) (.slice ad (pl i).length cap) (.int .i64 (T)))) := (⟨hp, HRW, HKQ⟩ : _ ∧ _ ∧ _)
        have o0 := cell_of (Po.ob HPO) (j := 0) rfl
        have o1 := cell_of (Po.ob HPO) (j := 1) rfl
        clear HRW HKQ HPO HW4 HPT HA HSM HPL HMT HI0
        clear hp
        by_cases hmt : mt i
        · rw [dc_t hmt]
          clear hadd hmt
          go_wp2_with fail
          obtain ⟨WF, hWF⟩ : ∃ WF, WF = s2 wr (w.heap.size + 3) (.slice ad (pl i).length cap) (.int .i64 (T)) := ⟨_, rfl⟩
          rw [← hWF] at e0 e1 HFI
          have hWF' := hWF
          unfold s2 at hWF'
          rw [← hWF']
          clear hWF hWF'
          refine bodyPost_ret (by simp [results, Try.results48, go_sem, e0, e1]; rfl) rfl ?_
          obtain ⟨h1, h2, h3⟩ := (show _ ∧ _ ∧ _ from HFI)
          exact ⟨(.slice ad (pl i).length cap), (pl i), T, rfl, h1, h2, h3⟩
        rw [dc_f hmt]
        by_cases hy : yk = 0
        · have hy1 : (yk != 0) = false := by simp [hy]
          clear hadd hmt
          go_wp2_with fail
          obtain ⟨WF, hWF⟩ : ∃ WF, WF = s2 wr (w.heap.size + 3) (.slice ad (pl i).length cap) (.int .i64 (T)) := ⟨_, rfl⟩
          rw [← hWF] at e0 e1 HFI
          have hWF' := hWF
          unfold s2 at hWF'
          rw [← hWF']
          clear hWF hWF'
          refine bodyPost_ret (by simp [results, Try.results48, go_sem, e0, e1]; rfl) rfl ?_
          obtain ⟨h1, h2, h3⟩ := (show _ ∧ _ ∧ _ from HFI)
          exact ⟨(.slice ad (pl i).length cap), (pl i), T, rfl, h1, h2, h3⟩
        have hy1 : (yk != 0) = true := by simpa using hy
        rcases Nat.lt_or_ge i 500 with h5 | h5
        case inr =>
          have h5I : ¬ (i : Int) < 500 := by omega
          clear hadd hmt
          go_wp2_with fail
          obtain ⟨WF, hWF⟩ : ∃ WF, WF = s2 wr (w.heap.size + 3) (.slice ad (pl i).length cap) (.int .i64 (T)) := ⟨_, rfl⟩
          rw [← hWF] at e0 e1 HFI
          have hWF' := hWF
          unfold s2 at hWF'
          rw [← hWF']
          clear hWF hWF'
          refine bodyPost_ret (by simp [results, Try.results48, go_sem, e0, e1]; rfl) rfl ?_
          obtain ⟨h1, h2, h3⟩ := (show _ ∧ _ ∧ _ from HFI)
          exact ⟨(.slice ad (pl i).length cap), (pl i), T, rfl, h1, h2, h3⟩
        have h5I : (i : Int) < 500 := by omega
        have hTT : ¬ T < 1000000000000 := fun q => hadd ⟨hmt, hy, h5, q⟩
        clear hadd hmt
        go_wp2_with fail
        obtain ⟨WF, hWF⟩ : ∃ WF, WF = s2 wr (w.heap.size + 3) (.slice ad (pl i).length cap) (.int .i64 (T)) := ⟨_, rfl⟩
        rw [← hWF] at e0 e1 HFI
        have hWF' := hWF
        unfold s2 at hWF'
        rw [← hWF']
        clear hWF hWF'
        refine bodyPost_ret (by simp [results, Try.results48, go_sem, e0, e1]; rfl) rfl ?_
        obtain ⟨h1, h2, h3⟩ := (show _ ∧ _ ∧ _ from HFI)
        exact ⟨(.slice ad (pl i).length cap), (pl i), T, rfl, h1, h2, h3⟩
      obtain ⟨hmt, hy, h5, hTT⟩ := hadd
      rw [dc_f hmt]
      have hy1 : (yk != 0) = true := by simpa using hy
      have h5I : (i : Int) < 500 := by omega
      have HPU : Hid (Pu (pl i ++ [⟨⟨uk, um, ug, ux, ur⟩, ⟨yk, ym, yg, yx, yr⟩, T + 1⟩]) (T + 1)) := (hpt _ _).2 (.inl ⟨⟨hmt, hy, h5, hTT⟩, rfl, rfl⟩)
      obtain ⟨k, hk⟩ : ∃ k, k = (pl i).length := ⟨_, rfl⟩
      have hk1 : k + 1 ≤ 501 := by have := ((show ∀ i, (pl i).length ≤ i ∧ _ from HPL) i).1; omega
      have HK : Hid (k = (pl i).length) := hk
      rw [← hk] at HPO
      have o0 := cell_of (Po.ob HPO) (j := 0) rfl
      have o1 := cell_of (Po.ob HPO) (j := 1) rfl
      have of1 : wr.frozen? ⟨w.heap.size + 4, 1, none⟩ = false := by simp [World.frozen?, (Po.ob HPO)]
      clear hmt hy hpt HPT HA HSM HPL HMT hk
      generalize pl i = pre at HPO HPU HK
      go_upto_region 14 with fail
      have HP6 : Hid (Po w4 (w.heap.size + 4) pre (.slice ad k cap) (T + 1) (wr.setCell ⟨w.heap.size + 4, 1, none⟩ (.int .i64 (T + 1)))) := Po.turn HPO (T + 1)
      clear o0 o1 of1 c0 c1 y0 HPO
      generalize wr.setCell ⟨w.heap.size + 4, 1, none⟩ (.int .i64 (T + 1)) = W6 at HP6 ⊢
      have o0 := cell_of (Po.ob HP6) (j := 0) rfl
      have o1 := cell_of (Po.ob HP6) (j := 1) rfl
      have hB6 : w.heap.size + 4 < W6.heap.size := Po.lt HP6
      have hW := (show Kq w w4 ∧ w4.heap[w.heap.size]? = some (.cells #[.slice pa i ca, .int .i64 T] 40 (0, 0)) ∧ w4.heap[w.heap.size + 1]? = some (.cells #[.int .i64 uk, .int .i64 um, .float .f64 ug, .string ux, .int .i64 ur] 26 (0, 0)) ∧ w4.heap[w.heap.size + 2]? = some (.cells #[.int .i64 yk, .int .i64 ym, .float .f64 yg, .string yx, .int .i64 yr] 26 (0, 0)) ∧ w4.heap[w.heap.size + 3]? = some (.cells #[.slice none 0 0, .int .i64 0] 40 (0, 0)) ∧ w4.heap.size = w.heap.size + 4 from HW4)
      have k46 := Po.kq HP6
      have p0 := k46.cell (cell_of hW.2.2.1 (j := 0) rfl)
      have p1 := k46.cell (cell_of hW.2.2.1 (j := 1) rfl)
      have p2 := k46.cell (cell_of hW.2.2.1 (j := 2) rfl)
      have p3 := k46.cell (cell_of hW.2.2.1 (j := 3) rfl)
      have p4 := k46.cell (cell_of hW.2.2.1 (j := 4) rfl)
      have y0 := k46.cell (cell_of hW.2.2.2.1 (j := 0) rfl)
      have y1 := k46.cell (cell_of hW.2.2.2.1 (j := 1) rfl)
      have y2 := k46.cell (cell_of hW.2.2.2.1 (j := 2) rfl)
      have y3 := k46.cell (cell_of hW.2.2.2.1 (j := 3) rfl)
      have y4 := k46.cell (cell_of hW.2.2.2.1 (j := 4) rfl)
      have howna : ∀ E : Obj, (W6.alloc E).ownsRow ((w.heap.size + 4) + 1) 51 11 (.slice ad k cap) k (pre.flatMap pcl) := fun E => by
        have h := (Po.row HP6).alloc E
        rw [← (show k = pre.length from HK)] at h
        exact h
      have HADD : Hid (∀ (E : Obj) (g' cap' : Nat) (w7 : World), w7.ownsRow ((w.heap.size + 4) + 1) 51 11 (.slice (some ⟨g', 0, none⟩) (k + 1) cap') (k + 1) (pre.flatMap pcl ++ [.int .i64 uk, .int .i64 um, .float .f64 ug, .string ux, .int .i64 ur, .int .i64 yk, .int .i64 ym, .float .f64 yg, .string yx, .int .i64 yr, .int .i64 (T + 1)]) → (W6.alloc E).grownBy w7 (Value.slice ad k cap).ownBlock →
          w7.cell? ⟨w.heap.size + 4, 0, none⟩ = some (.slice ad k cap) ∧ w7.frozen? ⟨w.heap.size + 4, 0, none⟩ = false ∧ Po w4 (w.heap.size + 4) (pre ++ [⟨⟨uk, um, ug, ux, ur⟩, ⟨yk, ym, yg, yx, yr⟩, T + 1⟩]) (.slice (some ⟨g', 0, none⟩) (k + 1) cap') (T + 1) (w7.setCell ⟨w.heap.size + 4, 0, none⟩ (.slice (some ⟨g', 0, none⟩) (k + 1) cap'))) := (fun E g' cap' w7 ho hgr => by
        have hk := (show k = pre.length from HK)
        rw [hk] at ho
        obtain ⟨q1, q2, q3⟩ := Po.add (p := ⟨⟨uk, um, ug, ux, ur⟩, ⟨yk, ym, yg, yx, yr⟩, T + 1⟩) HP6 ho hgr
        rw [← hk] at q3
        exact ⟨q1, q2, q3⟩ : ∀ (E : Obj) (g' cap' : Nat) (w7 : World), _)
      have hqc := qr_cells W6 #[.int .i64 uk, .int .i64 um, .float .f64 ug, .string ux, .int .i64 ur, .int .i64 yk, .int .i64 ym, .float .f64 yg, .string yx, .int .i64 yr, .int .i64 (T + 1)] 51 [.int .i64 uk, .int .i64 um, .float .f64 ug, .string ux, .int .i64 ur, .int .i64 yk, .int .i64 ym, .float .f64 yg, .string yx, .int .i64 yr, .int .i64 (T + 1)] rfl
      have h1c : ∀ u ∈ [(.int .i64 uk : Value), .int .i64 um, .float .f64 ug, .string ux, .int .i64 ur, .int .i64 yk, .int .i64 ym, .float .f64 yg, .string yx, .int .i64 yr, .int .i64 (T + 1)], u.oneCell' = true := by intro u hu; simp at hu; rcases hu with rfl | rfl | rfl | rfl | rfl | rfl | rfl | rfl | rfl | rfl | rfl <;> rfl
      clear HP6 k46 hW
      go_upto_region 15 with (at_builtin; refine wpList_append_lies _ rfl (.tmp 61) (.tmp 67) 38 rfl ((w.heap.size + 4) + 1) 51 i0 z11 11 104 Try.underlying38 HI0 hz0 hz1 hz2 rfl (by decide) _ _ _ rfl (howna _) ⟨W6.heap.size, 0, none⟩ 1 1 [.int .i64 uk, .int .i64 um, .float .f64 ug, .string ux, .int .i64 ur, .int .i64 yk, .int .i64 ym, .float .f64 yg, .string yx, .int .i64 yr, .int .i64 (T + 1)] rfl rfl hqc h1c (by decide) (by unfold maxLen; omega) (by omega) (by simp; omega) (W6.heap.size + 1) (by simp) ?_; intro g' cap' w7 hown1 hgrow1 hl1 _; obtain ⟨o7, z7, HN⟩ := (show ∀ (E : Obj) (g' cap' : Nat) (w7 : World), _ from HADD) _ _ _ _ hown1 hgrow1; have HPO : Hid (Po w4 (w.heap.size + 4) (pre ++ [⟨⟨uk, um, ug, ux, ur⟩, ⟨yk, ym, yg, yx, yr⟩, T + 1⟩]) (.slice (some ⟨g', 0, none⟩) (k + 1) cap') (T + 1) (w7.setCell ⟨w.heap.size + 4, 0, none⟩ (.slice (some ⟨g', 0, none⟩) (k + 1) cap'))) := HN; clear HN HADD hown1 hgrow1 hl1 howna hqc h1c o0 o1 p0 p1 p2 p3 p4 y0 y1 y2 y3 y4)
      clear o7 z7
      generalize w7.setCell ⟨w.heap.size + 4, 0, none⟩ (.slice (some ⟨g', 0, none⟩) (k + 1) cap') = W8 at HPO ⊢
      generalize pre ++ [⟨⟨uk, um, ug, ux, ur⟩, ⟨yk, ym, yg, yx, yr⟩, T + 1⟩] = L at HPO HPU
      have hp := (show Pu L (T + 1) from HPU)
      obtain ⟨r0, r1, z0, z1, e0, e1, HRW, HKQ⟩ := Po.fin (show Po w4 (w.heap.size + 4) L (.slice (some ⟨g', 0, none⟩) (k + 1) cap') (T + 1) W8 from HPO) (show Kq w w4 ∧ w4.heap[w.heap.size]? = some (.cells #[.slice pa i ca, .int .i64 T] 40 (0, 0)) ∧ w4.heap[w.heap.size + 1]? = some (.cells #[.int .i64 uk, .int .i64 um, .float .f64 ug, .string ux, .int .i64 ur] 26 (0, 0)) ∧ w4.heap[w.heap.size + 2]? = some (.cells #[.int .i64 yk, .int .i64 ym, .float .f64 yg, .string yx, .int .i64 yr] 26 (0, 0)) ∧ w4.heap[w.heap.size + 3]? = some (.cells #[.slice none 0 0, .int .i64 0] 40 (0, 0)) ∧ w4.heap.size = w.heap.size + 4 from HW4).1 (show Kq w w4 ∧ w4.heap[w.heap.size]? = some (.cells #[.slice pa i ca, .int .i64 T] 40 (0, 0)) ∧ w4.heap[w.heap.size + 1]? = some (.cells #[.int .i64 uk, .int .i64 um, .float .f64 ug, .string ux, .int .i64 ur] 26 (0, 0)) ∧ w4.heap[w.heap.size + 2]? = some (.cells #[.int .i64 yk, .int .i64 ym, .float .f64 yg, .string yx, .int .i64 yr] 26 (0, 0)) ∧ w4.heap[w.heap.size + 3]? = some (.cells #[.slice none 0 0, .int .i64 0] 40 (0, 0)) ∧ w4.heap.size = w.heap.size + 4 from HW4).2.2.2.2.2 (show Kq w w4 ∧ w4.heap[w.heap.size]? = some (.cells #[.slice pa i ca, .int .i64 T] 40 (0, 0)) ∧ w4.heap[w.heap.size + 1]? = some (.cells #[.int .i64 uk, .int .i64 um, .float .f64 ug, .string ux, .int .i64 ur] 26 (0, 0)) ∧ w4.heap[w.heap.size + 2]? = some (.cells #[.int .i64 yk, .int .i64 ym, .float .f64 yg, .string yx, .int .i64 yr] 26 (0, 0)) ∧ w4.heap[w.heap.size + 3]? = some (.cells #[.slice none 0 0, .int .i64 0] 40 (0, 0)) ∧ w4.heap.size = w.heap.size + 4 from HW4).2.2.2.2.1
      have HFI : Hid (Pu L (T + 1) ∧ (s2 W8 (w.heap.size + 3) (.slice (some ⟨g', 0, none⟩) (k + 1) cap') (.int .i64 ((T + 1)))).ownsRow w.heap.size 51 11 (.slice (some ⟨g', 0, none⟩) (k + 1) cap') (L).length ((L).flatMap pcl) ∧ Kq w (s2 W8 (w.heap.size + 3) (.slice (some ⟨g', 0, none⟩) (k + 1) cap') (.int .i64 ((T + 1))))) := (⟨hp, HRW, HKQ⟩ : _ ∧ _ ∧ _)
      have o0 := cell_of (Po.ob HPO) (j := 0) rfl
      have o1 := cell_of (Po.ob HPO) (j := 1) rfl
      clear HRW HKQ HPO HW4 HI0
      clear hp
      go_wp2_with fail
      obtain ⟨WF, hWF⟩ : ∃ WF, WF = s2 W8 (w.heap.size + 3) (.slice (some ⟨g', 0, none⟩) (k + 1) cap') (.int .i64 ((T + 1))) := ⟨_, rfl⟩
      rw [← hWF] at e0 e1 HFI
      have hWF' := hWF
      unfold s2 at hWF'
      rw [← hWF']
      clear hWF hWF'
      refine bodyPost_ret (by simp [results, Try.results48, go_sem, e0, e1]; rfl) rfl ?_
      obtain ⟨h1, h2, h3⟩ := (show _ ∧ _ ∧ _ from HFI)
      exact ⟨(.slice (some ⟨g', 0, none⟩) (k + 1) cap'), L, (T + 1), rfl, h1, h2, h3⟩
    have hA := (show (0 < n → pa = some ⟨g, 0, none⟩ ∧ n ≤ ca) ∧ (∀ i, i < n → Cp w ⟨g, i * 11, none⟩ (F i)) from HA)
    obtain ⟨rfl, hca⟩ := hA.1 (by omega)
    have hW := (show Kq w w4 ∧ w4.heap[w.heap.size]? = some (.cells #[.slice (some ⟨g, 0, none⟩) n ca, .int .i64 T] 40 (0, 0)) ∧ w4.heap[w.heap.size + 1]? = some (.cells #[.int .i64 uk, .int .i64 um, .float .f64 ug, .string ux, .int .i64 ur] 26 (0, 0)) ∧ w4.heap[w.heap.size + 2]? = some (.cells #[.int .i64 yk, .int .i64 ym, .float .f64 yg, .string yx, .int .i64 yr] 26 (0, 0)) ∧ w4.heap[w.heap.size + 3]? = some (.cells #[.slice none 0 0, .int .i64 0] 40 (0, 0)) ∧ w4.heap.size = w.heap.size + 4 from HW4)
    have kwr : Kq w wr := hW.1.trans hP.kq
    have hc := (hA.2 i hi).kq kwr
    have p0 := fun o => (hP.kq.trans (kq_alloc wr o 51)).cell (cell_of hW.2.2.1 (j := 0) rfl)
    have p1 := fun o => (hP.kq.trans (kq_alloc wr o 51)).cell (cell_of hW.2.2.1 (j := 1) rfl)
    have p2 := fun o => (hP.kq.trans (kq_alloc wr o 51)).cell (cell_of hW.2.2.1 (j := 2) rfl)
    have p3 := fun o => (hP.kq.trans (kq_alloc wr o 51)).cell (cell_of hW.2.2.1 (j := 3) rfl)
    have p4 := fun o => (hP.kq.trans (kq_alloc wr o 51)).cell (cell_of hW.2.2.1 (j := 4) rfl)
    have hz4 := hW.2.2.2.2.2
    have hBl := hP.lt
    have heq := (show ∀ j, j < n → ∀ w, _ from HSM) i hi
    have HLI : Hid ((pl i).length ≤ i ∧ pl (i + 1) = pl i ++ (if dc (mk (F i).a = mu) then (if yk = 0 then [] else [⟨(F i).a, ⟨yk, ym, yg, yx, yr⟩, (F i).t⟩]) else (if (F i).b.k = 0 then [] else [F i]))) := (show ∀ i, _ from HPL) i
    have HMI : Hid (mt (i + 1) ↔ (mt i ∨ mk (F i).a = mu)) := (show ∀ i, _ from HMT) i
    have HPO : Hid (Po w4 (w.heap.size + 4) (pl i) (.slice ad (pl i).length cap) T wr) := hP
    have hnv : some wr.heap.size ≠ (Value.slice ad (pl i).length cap).ownBlock := fun e => by have := (hP.row.lt _ e.symm).2; omega
    have hiI : (i : Int) < (n : Int) := by omega
    clear hA HA hW kwr HSM HPL HMT HPT hP hin
    generalize F i = p at hc heq HLI HMI
    obtain ⟨⟨pk, pm, pg, px, pr⟩, ⟨qk, qm, qg, qx, qr⟩, pt⟩ := p
    obtain ⟨d0, d1, d2, d3, d4, d5, d6, d7, d8, d9, d10⟩ := hc
    dsimp only at heq HLI HMI d0 d1 d2 d3 d4 d5 d6 d7 d8 d9 d10
    go_wp2_with fail
    refine (heq _).mono ?_
    rintro e w5 ⟨rfl, g5⟩
    have K5 : Kq wr w5 := (kq_alloc _ _ _).trans (.of_grown g5)
    have hB5 : w5.heap[wr.heap.size]? = some (.cells #[.int .i64 pk, .int .i64 pm, .float .f64 pg, .string px, .int .i64 pr, .int .i64 qk, .int .i64 qm, .float .f64 qg, .string qx, .int .i64 qr, .int .i64 pt] 51 (0, 0)) := ((Kq.of_grown g5).block _ (by simp)).trans (alloc_new _ _)
    have HP5 : Hid (Po w4 (w.heap.size + 4) (pl i) (.slice ad (pl i).length cap) T w5) := Po.on HPO K5
    have hW := (show Kq w w4 ∧ w4.heap[w.heap.size]? = some (.cells #[.slice (some ⟨g, 0, none⟩) n ca, .int .i64 T] 40 (0, 0)) ∧ w4.heap[w.heap.size + 1]? = some (.cells #[.int .i64 uk, .int .i64 um, .float .f64 ug, .string ux, .int .i64 ur] 26 (0, 0)) ∧ w4.heap[w.heap.size + 2]? = some (.cells #[.int .i64 yk, .int .i64 ym, .float .f64 yg, .string yx, .int .i64 yr] 26 (0, 0)) ∧ w4.heap[w.heap.size + 3]? = some (.cells #[.slice none 0 0, .int .i64 0] 40 (0, 0)) ∧ w4.heap.size = w.heap.size + 4 from HW4)
    have v0 := (hW.2.2.2.1)
    have y0 := (Po.kq HP5).cell (cell_of v0 (j := 0) rfl)
    have y1 := (Po.kq HP5).cell (cell_of v0 (j := 1) rfl)
    have y2 := (Po.kq HP5).cell (cell_of v0 (j := 2) rfl)
    have y3 := (Po.kq HP5).cell (cell_of v0 (j := 3) rfl)
    have y4 := (Po.kq HP5).cell (cell_of v0 (j := 4) rfl)
    have hPz : wr.heap.size < w5.heap.size := lt_of_obj hB5
    clear heq d0 d1 d2 d3 d4 d5 d6 d7 d8 d9 d10 p0 p1 p2 p3 p4 g5 K5 HPO v0 hW
    generalize wr.heap.size = PB at hB5 hPz hnv hBl ⊢
    obtain ⟨pre, hpre⟩ : ∃ pre, pre = pl i := ⟨_, rfl⟩
    rw [← hpre] at HP5 hnv HLI
    obtain ⟨k, hk⟩ : ∃ k, k = pre.length := ⟨_, rfl⟩
    rw [← hk] at HP5 hnv HLI
    have hk1 : k + 1 ≤ 501 := by have := (show k ≤ i ∧ _ from HLI).1; omega
    have HK : Hid (k = pre.length) := hk
    have hB4 : w.heap.size + 4 < w5.heap.size := Po.lt HP5
    clear hpre hk wr
    by_cases hm : mk ⟨pk, pm, pg, px, pr⟩ = mu
    case neg =>
      rw [dc_f hm]
      have hs8 : dc (mt (i + 1)) = dc (mt i) := by
        have h := (show mt (i + 1) ↔ (mt i ∨ mk ⟨pk, pm, pg, px, pr⟩ = mu) from HMI)
        by_cases q : mt i
        · rw [dc_t q, dc_t (h.2 (.inl q))]
        · rw [dc_f q, dc_f (fun z => (h.1 z).elim q hm)]
      have HPW : Hid (Po w4 (w.heap.size + 4) pre (.slice ad k cap) T w5) := HP5
      have HB : w5.heap[PB]? = some (.cells #[.int .i64 pk, .int .i64 pm, .float .f64 pg, .string px, .int .i64 pr, .int .i64 qk, .int .i64 qm, .float .f64 qg, .string qx, .int .i64 qr, .int .i64 pt] 51 (0, 0)) := hB5
      have HLJ : Hid (pl (i + 1) = pre ++ (if qk = 0 then [] else [⟨⟨pk, pm, pg, px, pr⟩, ⟨qk, qm, qg, qx, qr⟩, pt⟩])) := by
        have h := (show k ≤ i ∧ _ from HLI).2
        rw [dc_f hm] at h
        exact h
      clear HLI HMI HP5 hB5 hm y0 y1 y2 y3 y4
      obtain ⟨⟨e0, e1, e2, e3, e4, e5, e6, e7, e8, e9, e10⟩, ef⟩ := Pb.blk (p := ⟨⟨pk, pm, pg, px, pr⟩, ⟨qk, qm, qg, qx, qr⟩, pt⟩) HB
      dsimp only at e0 e1 e2 e3 e4 e5 e6 e7 e8 e9 e10
      have o0 := cell_of (Po.ob HPW) (j := 0) rfl
      by_cases hb0 : qk = 0
      · have hb1 : (qk != 0) = false := by simp [hb0]
        have HX : Hid (∃ v, Po w4 (w.heap.size + 4) (pl (i + 1)) v T w5) := by
          have h := (show pl (i + 1) = _ from HLJ)
          rw [if_pos hb0, List.append_nil] at h
          rw [h]
          exact (⟨_, HPW⟩ : ∃ v, Po w4 (w.heap.size + 4) pre v T w5)
        clear HLJ HPW HB ef o0 HI0 HW4 hb0
        go_wp2_with fail
        go_roundw
        case rel => exact ⟨i + 1, by rw [hs8], by go_num, by omega, HX⟩
        case measure => simp [intOf]; omega
      have hb1 : (qk != 0) = true := by simpa using hb0
      have howna : ∀ E : Obj, (w5.alloc E).ownsRow ((w.heap.size + 4) + 1) 51 11 (.slice ad k cap) k (pre.flatMap pcl) := fun E => by
        have h := (Po.row HPW).alloc E
        rw [← (show k = pre.length from HK)] at h
        exact h
      have HADD : Hid (∀ (E : Obj) (g' cap' : Nat) (w7 : World), w7.ownsRow ((w.heap.size + 4) + 1) 51 11 (.slice (some ⟨g', 0, none⟩) (k + 1) cap') (k + 1) (pre.flatMap pcl ++ [.int .i64 pk, .int .i64 pm, .float .f64 pg, .string px, .int .i64 pr, .int .i64 qk, .int .i64 qm, .float .f64 qg, .string qx, .int .i64 qr, .int .i64 pt]) → (w5.alloc E).grownBy w7 (Value.slice ad k cap).ownBlock →
          w7.cell? ⟨w.heap.size + 4, 0, none⟩ = some (.slice ad k cap) ∧ w7.frozen? ⟨w.heap.size + 4, 0, none⟩ = false ∧ ∃ v, Po w4 (w.heap.size + 4) (pl (i + 1)) v T (w7.setCell ⟨w.heap.size + 4, 0, none⟩ (.slice (some ⟨g', 0, none⟩) (k + 1) cap'))) := (fun E g' cap' w7 ho hgr => by
        have hk := (show k = pre.length from HK)
        have h := (show pl (i + 1) = _ from HLJ)
        rw [if_neg hb0] at h
        rw [h]
        rw [hk] at ho
        obtain ⟨q1, q2, q3⟩ := Po.add (p := ⟨⟨pk, pm, pg, px, pr⟩, ⟨qk, qm, qg, qx, qr⟩, pt⟩) HPW ho hgr
        rw [← hk] at q3
        exact ⟨q1, q2, _, q3⟩ : ∀ (E : Obj) (g' cap' : Nat) (w7 : World), _)
      have hqc := qr_cells w5 #[.int .i64 pk, .int .i64 pm, .float .f64 pg, .string px, .int .i64 pr, .int .i64 qk, .int .i64 qm, .float .f64 qg, .string qx, .int .i64 qr, .int .i64 pt] 51 [.int .i64 pk, .int .i64 pm, .float .f64 pg, .string px, .int .i64 pr, .int .i64 qk, .int .i64 qm, .float .f64 qg, .string qx, .int .i64 qr, .int .i64 pt] rfl
      have h1c : ∀ u ∈ [(.int .i64 pk : Value), .int .i64 pm, .float .f64 pg, .string px, .int .i64 pr, .int .i64 qk, .int .i64 qm, .float .f64 qg, .string qx, .int .i64 qr, .int .i64 pt], u.oneCell' = true := by intro u hu; simp at hu; rcases hu with rfl | rfl | rfl | rfl | rfl | rfl | rfl | rfl | rfl | rfl | rfl <;> rfl
      clear HLJ HPW HB ef hb0 HW4
      go_wp2_with (at_builtin; refine wpList_append_lies _ rfl (.tmp 32) (.tmp 34) 38 rfl ((w.heap.size + 4) + 1) 51 i0 z11 11 104 Try.underlying38 HI0 hz0 hz1 hz2 rfl (by decide) _ _ _ rfl (howna _) ⟨w5.heap.size, 0, none⟩ 1 1 [.int .i64 pk, .int .i64 pm, .float .f64 pg, .string px, .int .i64 pr, .int .i64 qk, .int .i64 qm, .float .f64 qg, .string qx, .int .i64 qr, .int .i64 pt] rfl rfl hqc h1c (by decide) (by unfold maxLen; omega) (by omega) (by simp; omega) (w5.heap.size + 1) (by simp) ?_; intro g' cap' w7 hown1 hgrow1 hl1 _; obtain ⟨o7, z7, HN⟩ := (show ∀ (E : Obj) (g' cap' : Nat) (w7 : World), _ from HADD) _ _ _ _ hown1 hgrow1; have HN' : Hid (∃ v, Po w4 (w.heap.size + 4) (pl (i + 1)) v T (w7.setCell ⟨w.heap.size + 4, 0, none⟩ (.slice (some ⟨g', 0, none⟩) (k + 1) cap'))) := HN; clear HN HADD hown1 hgrow1 hl1 howna hqc h1c o0 e0 e1 e2 e3 e4 e5 e6 e7 e8 e9 e10)
      go_roundw
      case rel => exact ⟨i + 1, by rw [hs8], by go_num, by omega, HN'⟩
      case measure => simp [intOf]; omega
    have HS8 : Hid (dc (mt (i + 1)) = true) := dc_t ((show mt (i + 1) ↔ _ from HMI).2 (.inr hm))
    have HLJ : Hid (pl (i + 1) = pre ++ (if yk = 0 then [] else [⟨⟨pk, pm, pg, px, pr⟩, ⟨yk, ym, yg, yx, yr⟩, pt⟩])) := by
      have h := (show k ≤ i ∧ _ from HLI).2
      rw [dc_t hm] at h
      exact h
    rw [dc_t hm]
    obtain ⟨⟨f0, f1, f2, f3, f4, f5, f6, f7, f8, f9, f10⟩, ff⟩ := Pb.blk (p := ⟨⟨pk, pm, pg, px, pr⟩, ⟨qk, qm, qg, qx, qr⟩, pt⟩) hB5
    dsimp only at f0 f1 f2 f3 f4 f5 f6 f7 f8 f9 f10
    clear HLI HMI hm
    go_upto_region 9 with fail
    obtain ⟨WF, hWF⟩ : ∃ WF, WF = s5p w5 PB yk ym yg yx yr := ⟨_, rfl⟩
    have HPW : Hid (Po w4 (w.heap.size + 4) pre (.slice ad k cap) T WF) := by rw [hWF]; exact Po.st HP5 hBl hnv _ _ _ _ _
    have HB : WF.heap[PB]? = some (.cells #[.int .i64 pk, .int .i64 pm, .float .f64 pg, .string px, .int .i64 pr, .int .i64 yk, .int .i64 ym, .float .f64 yg, .string yx, .int .i64 yr, .int .i64 pt] 51 (0, 0)) := by rw [hWF]; exact s5p_at (p := ⟨⟨pk, pm, pg, px, pr⟩, ⟨qk, qm, qg, qx, qr⟩, pt⟩) hB5 _ _ _ _ _
    have hPz' : PB < WF.heap.size := lt_of_obj HB
    have hB4' : w.heap.size + 4 < WF.heap.size := Po.lt HPW
    have hWF' := hWF
    unfold s5p at hWF'
    rw [← hWF']
    clear hWF hWF' HP5 hB5 y0 y1 y2 y3 y4 f0 f1 f2 f3 f4 f5 f6 f7 f8 f9 f10 ff hPz hB4 w5
    have hs8 : dc (mt (i + 1)) = true := HS8
    obtain ⟨⟨e0, e1, e2, e3, e4, e5, e6, e7, e8, e9, e10⟩, ef⟩ := Pb.blk (p := ⟨⟨pk, pm, pg, px, pr⟩, ⟨yk, ym, yg, yx, yr⟩, pt⟩) HB
    dsimp only at e0 e1 e2 e3 e4 e5 e6 e7 e8 e9 e10
    have o0 := cell_of (Po.ob HPW) (j := 0) rfl
    by_cases hb0 : yk = 0
    · have hb1 : (yk != 0) = false := by simp [hb0]
      have HX : Hid (∃ v, Po w4 (w.heap.size + 4) (pl (i + 1)) v T WF) := by
        have h := (show pl (i + 1) = _ from HLJ)
        rw [if_pos hb0, List.append_nil] at h
        rw [h]
        exact (⟨_, HPW⟩ : ∃ v, Po w4 (w.heap.size + 4) pre v T WF)
      clear HLJ HPW HB ef o0 HI0 HW4 hb0
      go_wp2_with fail
      go_roundw
      case rel => exact ⟨i + 1, by rw [hs8], by go_num, by omega, HX⟩
      case measure => simp [intOf]; omega
    have hb1 : (yk != 0) = true := by simpa using hb0
    have howna : ∀ E : Obj, (WF.alloc E).ownsRow ((w.heap.size + 4) + 1) 51 11 (.slice ad k cap) k (pre.flatMap pcl) := fun E => by
      have h := (Po.row HPW).alloc E
      rw [← (show k = pre.length from HK)] at h
      exact h
    have HADD : Hid (∀ (E : Obj) (g' cap' : Nat) (w7 : World), w7.ownsRow ((w.heap.size + 4) + 1) 51 11 (.slice (some ⟨g', 0, none⟩) (k + 1) cap') (k + 1) (pre.flatMap pcl ++ [.int .i64 pk, .int .i64 pm, .float .f64 pg, .string px, .int .i64 pr, .int .i64 yk, .int .i64 ym, .float .f64 yg, .string yx, .int .i64 yr, .int .i64 pt]) → (WF.alloc E).grownBy w7 (Value.slice ad k cap).ownBlock →
        w7.cell? ⟨w.heap.size + 4, 0, none⟩ = some (.slice ad k cap) ∧ w7.frozen? ⟨w.heap.size + 4, 0, none⟩ = false ∧ ∃ v, Po w4 (w.heap.size + 4) (pl (i + 1)) v T (w7.setCell ⟨w.heap.size + 4, 0, none⟩ (.slice (some ⟨g', 0, none⟩) (k + 1) cap'))) := (fun E g' cap' w7 ho hgr => by
      have hk := (show k = pre.length from HK)
      have h := (show pl (i + 1) = _ from HLJ)
      rw [if_neg hb0] at h
      rw [h]
      rw [hk] at ho
      obtain ⟨q1, q2, q3⟩ := Po.add (p := ⟨⟨pk, pm, pg, px, pr⟩, ⟨yk, ym, yg, yx, yr⟩, pt⟩) HPW ho hgr
      rw [← hk] at q3
      exact ⟨q1, q2, _, q3⟩ : ∀ (E : Obj) (g' cap' : Nat) (w7 : World), _)
    have hqc := qr_cells WF #[.int .i64 pk, .int .i64 pm, .float .f64 pg, .string px, .int .i64 pr, .int .i64 yk, .int .i64 ym, .float .f64 yg, .string yx, .int .i64 yr, .int .i64 pt] 51 [.int .i64 pk, .int .i64 pm, .float .f64 pg, .string px, .int .i64 pr, .int .i64 yk, .int .i64 ym, .float .f64 yg, .string yx, .int .i64 yr, .int .i64 pt] rfl
    have h1c : ∀ u ∈ [(.int .i64 pk : Value), .int .i64 pm, .float .f64 pg, .string px, .int .i64 pr, .int .i64 yk, .int .i64 ym, .float .f64 yg, .string yx, .int .i64 yr, .int .i64 pt], u.oneCell' = true := by intro u hu; simp at hu; rcases hu with rfl | rfl | rfl | rfl | rfl | rfl | rfl | rfl | rfl | rfl | rfl <;> rfl
    clear HLJ HPW HB ef hb0 HW4
    go_wp2_with (at_builtin; refine wpList_append_lies _ rfl (.tmp 32) (.tmp 34) 38 rfl ((w.heap.size + 4) + 1) 51 i0 z11 11 104 Try.underlying38 HI0 hz0 hz1 hz2 rfl (by decide) _ _ _ rfl (howna _) ⟨WF.heap.size, 0, none⟩ 1 1 [.int .i64 pk, .int .i64 pm, .float .f64 pg, .string px, .int .i64 pr, .int .i64 yk, .int .i64 ym, .float .f64 yg, .string yx, .int .i64 yr, .int .i64 pt] rfl rfl hqc h1c (by decide) (by unfold maxLen; omega) (by omega) (by simp; omega) (WF.heap.size + 1) (by simp) ?_; intro g' cap' w7 hown1 hgrow1 hl1 _; obtain ⟨o7, z7, HN⟩ := (show ∀ (E : Obj) (g' cap' : Nat) (w7 : World), _ from HADD) _ _ _ _ hown1 hgrow1; have HN' : Hid (∃ v, Po w4 (w.heap.size + 4) (pl (i + 1)) v T (w7.setCell ⟨w.heap.size + 4, 0, none⟩ (.slice (some ⟨g', 0, none⟩) (k + 1) cap'))) := HN; clear HN HADD hown1 hgrow1 hl1 howna hqc h1c o0 e0 e1 e2 e3 e4 e5 e6 e7 e8 e9 e10)
    go_roundw
    case rel => exact ⟨i + 1, by rw [hs8], by go_num, by omega, HN'⟩
    case measure => simp [intOf]; omega
end Go.Proofs.Ytfpidccjcemcjaa
namespace Go.Proofs.Ytfpidccjcemcjaa
open Go.ChangeShapes Go.WideShapes Go.ChangeAt Go.RowKit
set_option linter.unusedVariables false
set_option maxRecDepth 100000
/-- what Put answers -/
def PtA (n : Nat) (F : Nat → Pv) (T c : Int) (u y : Vv) (L : List Pv) (T' : Int) : Prop := (¬ (tok n F T ∧ vok y ∧ c = 0) ∧ L = [] ∧ T' = 0) ∨ ((tok n F T ∧ vok y ∧ c = 0) ∧ Pt n F T u y L T')
theorem tab_fin {w w4 W : World} (k : Kq w w4) (k' : Kq w4 W) (hz : w4.heap.size = w.heap.size + 4) (hr : w4.heap[w.heap.size + 3]? = some (.cells #[.slice none 0 0, .int .i64 0] 40 (0, 0))) (v : Value) (T : Int) :
    W.cell? ⟨w.heap.size + 3, 0, none⟩ = some (.slice none 0 0) ∧ W.cell? ⟨w.heap.size + 3, 1, none⟩ = some (.int .i64 0) ∧ W.frozen? ⟨w.heap.size + 3, 0, none⟩ = false ∧ W.frozen? ⟨w.heap.size + 3, 1, none⟩ = false ∧
    (s2 W (w.heap.size + 3) v (.int .i64 T)).cell? ⟨w.heap.size + 3, 0, none⟩ = some v ∧ (s2 W (w.heap.size + 3) v (.int .i64 T)).cell? ⟨w.heap.size + 3, 1, none⟩ = some (.int .i64 T) ∧ (∀ b n xs, w.heap.size + 4 ≤ b → W.ownsRow b 51 11 v n xs → (s2 W (w.heap.size + 3) v (.int .i64 T)).ownsRow w.heap.size 51 11 v n xs) ∧ Kq w (s2 W (w.heap.size + 3) v (.int .i64 T)) := by
  have hb := (k'.block (w.heap.size + 3) (by omega)).trans hr
  have hs := s2_at (v := v) (t := .int .i64 T) hb
  refine ⟨cell_of hb rfl, cell_of hb rfl, by simp [World.frozen?, hb], by simp [World.frozen?, hb], cell_of hs rfl, cell_of hs rfl, fun b n xs hb h => ?_, s2_kq (k.trans k') (by omega) _ _⟩
  refine row_mono (b := b) (rowBlk h (fun g e => s2_other _ _ _ _ g ?_)) (by omega)
  have := (h.lt g e).1
  omega
theorem row_shape {W : World} {b e z : Nat} {v : Value} {n : Nat} {xs : List Value} (h : W.ownsRow b e z v n xs) : ∃ (ad : Option Addr) (cap : Nat), v = .slice ad n cap := by
  rcases h.2 with ⟨rfl, e⟩ | ⟨g, cap, cur, rfl, _⟩
  · exact ⟨none, 0, by rw [e]⟩
  · exact ⟨_, cap, rfl⟩
set_option maxHeartbeats 16000000 in
theorem sp_put {v : Value} {g0 n : Nat} {F : Nat → Pv} (T : Int) (ky : Vv) (c : Int) (u y : Vv) (hy : Ky ky c u) (kb : Vb ky) (hxk : (ky.x.size : Int) ≤ 1048576) (hxy : (y.x.size : Int) ≤ 1048576) (huk : c = 0 → Uk u) (w : World) (ha : OwnP w v g0 n F) (tb : Tb n F) : Calls Try.prog 22 #[.agg #[v, .int .i64 T], vv ky, vv y] w fun e w' => ∃ v' L T', e = .returned (.agg #[v', .int .i64 T']) ∧ PtA n F T c u y L T' ∧ w'.ownsRow w.heap.size 51 11 v' L.length (L.flatMap pcl) ∧ Kq w w' := by
  obtain ⟨pa, ca, rfl, ha2⟩ := ha.sl
  have HKEY := fun w => sp_key hy hxk kb.g w
  have HVOK := fun w => sp_ok y hxy w
  have HPUT : Hid (tok n F T → c = 0 → ∀ W, Kq w W → Calls Try.prog 48 #[.agg #[.slice pa n ca, .int .i64 T], vv u, vv y] W fun e w' => ∃ v' L T', e = .returned (.agg #[v', .int .i64 T']) ∧ Pt n F T u y L T' ∧ w'.ownsRow W.heap.size 51 11 v' L.length (L.flatMap pcl) ∧ Kq W w') := (fun ht hc W q => sp_put0 T u y (huk hc) W (ha.kq q) tb ht : tok n F T → c = 0 → _)
  have HTOK : Hid (∀ W, Kq w W → Calls Try.prog 15 #[.agg #[.slice pa n ca, .int .i64 T]] W fun e w' => e = .returned (.bool (dc (tok n F T))) ∧ Kq W w') := (fun W q => sp_tableok T W (ha.kq q) tb : ∀ W, Kq w W → _)
  have HPT : Hid ((¬ (tok n F T ∧ vok y ∧ c = 0) → PtA n F T c u y [] 0) ∧ (∀ L T', tok n F T → vok y → c = 0 → Pt n F T u y L T' → PtA n F T c u y L T')) := (⟨fun h => .inl ⟨h, rfl, rfl⟩, fun L T' h1 h2 h3 h4 => .inr ⟨⟨h1, h2, h3⟩, h4⟩⟩ : _ ∧ _)
  clear ha ha2 tb hy kb hxk hxy huk
  generalize PtA n F T c u y = Pu at HPT ⊢
  generalize Pt n F T u y = Pq at HPT HPUT
  generalize tok n F T = tk at HPT HTOK HPUT
  generalize vok y = vk at HPT HVOK
  obtain ⟨uk, um, ug, ux, ur⟩ := u
  obtain ⟨yk, ym, yg, yx, yr⟩ := y
  obtain ⟨k, m, g, x, r⟩ := ky
  unfold vv at HKEY HVOK HPUT ⊢
  unfold va at HKEY
  dsimp only at HKEY HVOK HPUT ⊢
  obtain ⟨w4, hw4⟩ : ∃ w4, w4 = (((w.alloc (.cells #[.slice pa n ca, .int .i64 T] 40)).alloc (.cells #[.int .i64 k, .int .i64 m, .float .f64 g, .string x, .int .i64 r] 26)).alloc (.cells #[.int .i64 yk, .int .i64 ym, .float .f64 yg, .string yx, .int .i64 yr] 26)).alloc (.cells #[.slice none 0 0, .int .i64 0] 40) := ⟨_, rfl⟩
  obtain ⟨x0, x1, x2, x3, z4, k4⟩ := four_new w _ _ _ _ _ _ _ _ w4 hw4
  have HW4 : Hid (Kq w w4 ∧ w4.heap[w.heap.size]? = some (.cells #[.slice pa n ca, .int .i64 T] 40 (0, 0)) ∧ w4.heap[w.heap.size + 1]? = some (.cells #[.int .i64 k, .int .i64 m, .float .f64 g, .string x, .int .i64 r] 26 (0, 0)) ∧ w4.heap[w.heap.size + 2]? = some (.cells #[.int .i64 yk, .int .i64 ym, .float .f64 yg, .string yx, .int .i64 yr] 26 (0, 0)) ∧ w4.heap[w.heap.size + 3]? = some (.cells #[.slice none 0 0, .int .i64 0] 40 (0, 0)) ∧ w4.heap.size = w.heap.size + 4) := (⟨k4, x0, x1, x2, x3, z4⟩ : _ ∧ _ ∧ _ ∧ _ ∧ _ ∧ _)
  have hst : ∀ (a : Addr) (n : Nat) (m : Mode) (w : World), (store a (.float .f64 n) m).run Try.prog w = stored Try.prog w a (.float .f64 n) m := fun a n m w => run_store _ _ _ _ _ rfl
  clear x0 x1 x2 x3 z4 k4
  go_enter Try.func22, Try.ntmps22
  go_wp2_with fail
  rw [← hw4]
  clear hw4
  refine (HKEY _).mono ?_
  rintro e w5 ⟨rfl, k5⟩
  go_upto_region 2 with fail
  have HA6 : Hid (Ac (w5.alloc (.cells #[.int .i64 c, .int .i64 uk, .int .i64 um, .float .f64 ug, .string ux, .int .i64 ur] 28)) w5.heap.size c ⟨uk, um, ug, ux, ur⟩) := Ac.new _ _ _ _ _ _ _ _
  have HK6 : Hid (Kq w4 (w5.alloc (.cells #[.int .i64 c, .int .i64 uk, .int .i64 um, .float .f64 ug, .string ux, .int .i64 ur] 28))) := k5.trans (kq_alloc _ _ _)
  have hz5 : w.heap.size + 4 ≤ w5.heap.size := by have h1 := (show Kq w w4 ∧ w4.heap[w.heap.size]? = some (.cells #[.slice pa n ca, .int .i64 T] 40 (0, 0)) ∧ w4.heap[w.heap.size + 1]? = some (.cells #[.int .i64 k, .int .i64 m, .float .f64 g, .string x, .int .i64 r] 26 (0, 0)) ∧ w4.heap[w.heap.size + 2]? = some (.cells #[.int .i64 yk, .int .i64 ym, .float .f64 yg, .string yx, .int .i64 yr] 26 (0, 0)) ∧ w4.heap[w.heap.size + 3]? = some (.cells #[.slice none 0 0, .int .i64 0] 40 (0, 0)) ∧ w4.heap.size = w.heap.size + 4 from HW4).2.2.2.2.2; have h2 := k5.size; omega
  clear HKEY k5
  generalize w5.alloc (.cells #[.int .i64 c, .int .i64 uk, .int .i64 um, .float .f64 ug, .string ux, .int .i64 ur] 28) = w6 at HA6 HK6 ⊢
  generalize w5.heap.size = VB at HA6 hz5 ⊢
  have hW := (show Kq w w4 ∧ w4.heap[w.heap.size]? = some (.cells #[.slice pa n ca, .int .i64 T] 40 (0, 0)) ∧ w4.heap[w.heap.size + 1]? = some (.cells #[.int .i64 k, .int .i64 m, .float .f64 g, .string x, .int .i64 r] 26 (0, 0)) ∧ w4.heap[w.heap.size + 2]? = some (.cells #[.int .i64 yk, .int .i64 ym, .float .f64 yg, .string yx, .int .i64 yr] 26 (0, 0)) ∧ w4.heap[w.heap.size + 3]? = some (.cells #[.slice none 0 0, .int .i64 0] 40 (0, 0)) ∧ w4.heap.size = w.heap.size + 4 from HW4)
  have b0 := Kq.cell HK6 (cell_of hW.2.1 (j := 0) rfl)
  have b1 := Kq.cell HK6 (cell_of hW.2.1 (j := 1) rfl)
  have HT6 : Hid (Calls Try.prog 15 #[.agg #[.slice pa n ca, .int .i64 T]] w6 fun e w' => e = .returned (.bool (dc tk)) ∧ Kq w6 w') := (show ∀ W, Kq w W → _ from HTOK) w6 (hW.1.trans HK6)
  clear hW HTOK
  go_wp2_with fail
  refine (show Calls Try.prog 15 #[.agg #[.slice pa n ca, .int .i64 T]] w6 _ from HT6).mono ?_
  rintro e w7 ⟨rfl, k7⟩
  have HK7 : Hid (Kq w4 w7) := Kq.trans HK6 k7
  have HA7 : Hid (Ac w7 VB c ⟨uk, um, ug, ux, ur⟩) := (show Ac w6 VB c ⟨uk, um, ug, ux, ur⟩ from HA6).kq k7
  clear b0 b1 HT6 k7 HA6 HK6 w6
  by_cases ht : tk
  case neg =>
    rw [dc_f ht]
    have hp : Pu [] 0 := (show (¬ (tk ∧ vk ∧ c = 0) → Pu [] 0) ∧ _ from HPT).1 (fun q => ht q.1)
    obtain ⟨r0, r1, z0, z1, e0, e1, hrow, hkq⟩ := tab_fin (show Kq w w4 ∧ w4.heap[w.heap.size]? = some (.cells #[.slice pa n ca, .int .i64 T] 40 (0, 0)) ∧ w4.heap[w.heap.size + 1]? = some (.cells #[.int .i64 k, .int .i64 m, .float .f64 g, .string x, .int .i64 r] 26 (0, 0)) ∧ w4.heap[w.heap.size + 2]? = some (.cells #[.int .i64 yk, .int .i64 ym, .float .f64 yg, .string yx, .int .i64 yr] 26 (0, 0)) ∧ w4.heap[w.heap.size + 3]? = some (.cells #[.slice none 0 0, .int .i64 0] 40 (0, 0)) ∧ w4.heap.size = w.heap.size + 4 from HW4).1 (show Kq w4 w7 from HK7) (show Kq w w4 ∧ w4.heap[w.heap.size]? = some (.cells #[.slice pa n ca, .int .i64 T] 40 (0, 0)) ∧ w4.heap[w.heap.size + 1]? = some (.cells #[.int .i64 k, .int .i64 m, .float .f64 g, .string x, .int .i64 r] 26 (0, 0)) ∧ w4.heap[w.heap.size + 2]? = some (.cells #[.int .i64 yk, .int .i64 ym, .float .f64 yg, .string yx, .int .i64 yr] 26 (0, 0)) ∧ w4.heap[w.heap.size + 3]? = some (.cells #[.slice none 0 0, .int .i64 0] 40 (0, 0)) ∧ w4.heap.size = w.heap.size + 4 from HW4).2.2.2.2.2 (show Kq w w4 ∧ w4.heap[w.heap.size]? = some (.cells #[.slice pa n ca, .int .i64 T] 40 (0, 0)) ∧ w4.heap[w.heap.size + 1]? = some (.cells #[.int .i64 k, .int .i64 m, .float .f64 g, .string x, .int .i64 r] 26 (0, 0)) ∧ w4.heap[w.heap.size + 2]? = some (.cells #[.int .i64 yk, .int .i64 ym, .float .f64 yg, .string yx, .int .i64 yr] 26 (0, 0)) ∧ w4.heap[w.heap.size + 3]? = some (.cells #[.slice none 0 0, .int .i64 0] 40 (0, 0)) ∧ w4.heap.size = w.heap.size + 4 from HW4).2.2.2.2.1 (.slice none 0 0) (0)
    have HFI : Hid (Pu ([] : List Pv) (0) ∧ (s2 w7 (w.heap.size + 3) (.slice none 0 0) (.int .i64 (0))).ownsRow w.heap.size 51 11 (.slice none 0 0) (([] : List Pv)).length ((([] : List Pv)).flatMap pcl) ∧ Kq w (s2 w7 (w.heap.size + 3) (.slice none 0 0) (.int .i64 (0)))) := (⟨hp, hrow _ _ _ (Nat.le_refl _) (World.ownsRow_nil _ _ _ _), hkq⟩ : _ ∧ _ ∧ _)
    clear hrow hkq
    clear HPT HPUT HVOK HW4 HK7 HA7 hp ht
    go_wp2_with fail
    obtain ⟨WF, hWF⟩ : ∃ WF, WF = s2 w7 (w.heap.size + 3) (.slice none 0 0) (.int .i64 (0)) := ⟨_, rfl⟩
    rw [← hWF] at e0 e1 HFI
    have hWF' := hWF
    unfold s2 at hWF'
    rw [← hWF']
    clear hWF hWF'
    refine bodyPost_ret (by simp [results, Try.results22, go_sem, e0, e1]; rfl) rfl ?_
    obtain ⟨h1, h2, h3⟩ := (show _ ∧ _ ∧ _ from HFI)
    exact ⟨(.slice none 0 0), ([] : List Pv), 0, rfl, h1, h2, h3⟩
  rw [dc_t ht]
  have hW := (show Kq w w4 ∧ w4.heap[w.heap.size]? = some (.cells #[.slice pa n ca, .int .i64 T] 40 (0, 0)) ∧ w4.heap[w.heap.size + 1]? = some (.cells #[.int .i64 k, .int .i64 m, .float .f64 g, .string x, .int .i64 r] 26 (0, 0)) ∧ w4.heap[w.heap.size + 2]? = some (.cells #[.int .i64 yk, .int .i64 ym, .float .f64 yg, .string yx, .int .i64 yr] 26 (0, 0)) ∧ w4.heap[w.heap.size + 3]? = some (.cells #[.slice none 0 0, .int .i64 0] 40 (0, 0)) ∧ w4.heap.size = w.heap.size + 4 from HW4)
  have y0 := Kq.cell HK7 (cell_of hW.2.2.2.1 (j := 0) rfl)
  have y1 := Kq.cell HK7 (cell_of hW.2.2.2.1 (j := 1) rfl)
  have y2 := Kq.cell HK7 (cell_of hW.2.2.2.1 (j := 2) rfl)
  have y3 := Kq.cell HK7 (cell_of hW.2.2.2.1 (j := 3) rfl)
  have y4 := Kq.cell HK7 (cell_of hW.2.2.2.1 (j := 4) rfl)
  clear hW
  go_wp2_with fail
  refine (HVOK _).mono ?_
  rintro e w8 ⟨rfl, g8⟩
  have HK8 : Hid (Kq w4 w8) := Kq.trans HK7 (.of_grown g8)
  have HA8 : Hid (Ac w8 VB c ⟨uk, um, ug, ux, ur⟩) := (show Ac w7 VB c ⟨uk, um, ug, ux, ur⟩ from HA7).kq (.of_grown g8)
  clear y0 y1 y2 y3 y4 HVOK g8 HK7 HA7 w7
  by_cases hv : vk
  case neg =>
    rw [dc_f hv]
    have hp : Pu [] 0 := (show (¬ (tk ∧ vk ∧ c = 0) → Pu [] 0) ∧ _ from HPT).1 (fun q => hv q.2.1)
    obtain ⟨r0, r1, z0, z1, e0, e1, hrow, hkq⟩ := tab_fin (show Kq w w4 ∧ w4.heap[w.heap.size]? = some (.cells #[.slice pa n ca, .int .i64 T] 40 (0, 0)) ∧ w4.heap[w.heap.size + 1]? = some (.cells #[.int .i64 k, .int .i64 m, .float .f64 g, .string x, .int .i64 r] 26 (0, 0)) ∧ w4.heap[w.heap.size + 2]? = some (.cells #[.int .i64 yk, .int .i64 ym, .float .f64 yg, .string yx, .int .i64 yr] 26 (0, 0)) ∧ w4.heap[w.heap.size + 3]? = some (.cells #[.slice none 0 0, .int .i64 0] 40 (0, 0)) ∧ w4.heap.size = w.heap.size + 4 from HW4).1 (show Kq w4 w8 from HK8) (show Kq w w4 ∧ w4.heap[w.heap.size]? = some (.cells #[.slice pa n ca, .int .i64 T] 40 (0, 0)) ∧ w4.heap[w.heap.size + 1]? = some (.cells #[.int .i64 k, .int .i64 m, .float .f64 g, .string x, .int .i64 r] 26 (0, 0)) ∧ w4.heap[w.heap.size + 2]? = some (.cells #[.int .i64 yk, .int .i64 ym, .float .f64 yg, .string yx, .int .i64 yr] 26 (0, 0)) ∧ w4.heap[w.heap.size + 3]? = some (.cells #[.slice none 0 0, .int .i64 0] 40 (0, 0)) ∧ w4.heap.size = w.heap.size + 4 from HW4).2.2.2.2.2 (show Kq w w4 ∧ w4.heap[w.heap.size]? = some (.cells #[.slice pa n ca, .int .i64 T] 40 (0, 0)) ∧ w4.heap[w.heap.size + 1]? = some (.cells #[.int .i64 k, .int .i64 m, .float .f64 g, .string x, .int .i64 r] 26 (0, 0)) ∧ w4.heap[w.heap.size + 2]? = some (.cells #[.int .i64 yk, .int .i64 ym, .float .f64 yg, .string yx, .int .i64 yr] 26 (0, 0)) ∧ w4.heap[w.heap.size + 3]? = some (.cells #[.slice none 0 0, .int .i64 0] 40 (0, 0)) ∧ w4.heap.size = w.heap.size + 4 from HW4).2.2.2.2.1 (.slice none 0 0) (0)
    have HFI : Hid (Pu ([] : List Pv) (0) ∧ (s2 w8 (w.heap.size + 3) (.slice none 0 0) (.int .i64 (0))).ownsRow w.heap.size 51 11 (.slice none 0 0) (([] : List Pv)).length ((([] : List Pv)).flatMap pcl) ∧ Kq w (s2 w8 (w.heap.size + 3) (.slice none 0 0) (.int .i64 (0)))) := (⟨hp, hrow _ _ _ (Nat.le_refl _) (World.ownsRow_nil _ _ _ _), hkq⟩ : _ ∧ _ ∧ _)
    clear hrow hkq
    clear HPT HPUT HW4 HK8 HA8 hp hv
    go_wp2_with fail
    obtain ⟨WF, hWF⟩ : ∃ WF, WF = s2 w8 (w.heap.size + 3) (.slice none 0 0) (.int .i64 (0)) := ⟨_, rfl⟩
    rw [← hWF] at e0 e1 HFI
    have hWF' := hWF
    unfold s2 at hWF'
    rw [← hWF']
    clear hWF hWF'
    refine bodyPost_ret (by simp [results, Try.results22, go_sem, e0, e1]; rfl) rfl ?_
    obtain ⟨h1, h2, h3⟩ := (show _ ∧ _ ∧ _ from HFI)
    exact ⟨(.slice none 0 0), ([] : List Pv), 0, rfl, h1, h2, h3⟩
  rw [dc_t hv]
  obtain ⟨a0, a1, a2, a3, a4, a5⟩ := (show Ac w8 VB c ⟨uk, um, ug, ux, ur⟩ from HA8)
  dsimp only at a0 a1 a2 a3 a4 a5
  by_cases hc : c = 0
  case neg =>
    have hcb : (c != 0) = true := by simpa using hc
    have hp : Pu [] 0 := (show (¬ (tk ∧ vk ∧ c = 0) → Pu [] 0) ∧ _ from HPT).1 (fun q => hc q.2.2)
    obtain ⟨r0, r1, z0, z1, e0, e1, hrow, hkq⟩ := tab_fin (show Kq w w4 ∧ w4.heap[w.heap.size]? = some (.cells #[.slice pa n ca, .int .i64 T] 40 (0, 0)) ∧ w4.heap[w.heap.size + 1]? = some (.cells #[.int .i64 k, .int .i64 m, .float .f64 g, .string x, .int .i64 r] 26 (0, 0)) ∧ w4.heap[w.heap.size + 2]? = some (.cells #[.int .i64 yk, .int .i64 ym, .float .f64 yg, .string yx, .int .i64 yr] 26 (0, 0)) ∧ w4.heap[w.heap.size + 3]? = some (.cells #[.slice none 0 0, .int .i64 0] 40 (0, 0)) ∧ w4.heap.size = w.heap.size + 4 from HW4).1 (show Kq w4 w8 from HK8) (show Kq w w4 ∧ w4.heap[w.heap.size]? = some (.cells #[.slice pa n ca, .int .i64 T] 40 (0, 0)) ∧ w4.heap[w.heap.size + 1]? = some (.cells #[.int .i64 k, .int .i64 m, .float .f64 g, .string x, .int .i64 r] 26 (0, 0)) ∧ w4.heap[w.heap.size + 2]? = some (.cells #[.int .i64 yk, .int .i64 ym, .float .f64 yg, .string yx, .int .i64 yr] 26 (0, 0)) ∧ w4.heap[w.heap.size + 3]? = some (.cells #[.slice none 0 0, .int .i64 0] 40 (0, 0)) ∧ w4.heap.size = w.heap.size + 4 from HW4).2.2.2.2.2 (show Kq w w4 ∧ w4.heap[w.heap.size]? = some (.cells #[.slice pa n ca, .int .i64 T] 40 (0, 0)) ∧ w4.heap[w.heap.size + 1]? = some (.cells #[.int .i64 k, .int .i64 m, .float .f64 g, .string x, .int .i64 r] 26 (0, 0)) ∧ w4.heap[w.heap.size + 2]? = some (.cells #[.int .i64 yk, .int .i64 ym, .float .f64 yg, .string yx, .int .i64 yr] 26 (0, 0)) ∧ w4.heap[w.heap.size + 3]? = some (.cells #[.slice none 0 0, .int .i64 0] 40 (0, 0)) ∧ w4.heap.size = w.heap.size + 4 from HW4).2.2.2.2.1 (.slice none 0 0) (0)
    have HFI : Hid (Pu ([] : List Pv) (0) ∧ (s2 w8 (w.heap.size + 3) (.slice none 0 0) (.int .i64 (0))).ownsRow w.heap.size 51 11 (.slice none 0 0) (([] : List Pv)).length ((([] : List Pv)).flatMap pcl) ∧ Kq w (s2 w8 (w.heap.size + 3) (.slice none 0 0) (.int .i64 (0)))) := (⟨hp, hrow _ _ _ (Nat.le_refl _) (World.ownsRow_nil _ _ _ _), hkq⟩ : _ ∧ _ ∧ _)
    clear hrow hkq
    clear HPT HPUT HW4 HK8 HA8 hp hc
    go_wp2_with fail
    obtain ⟨WF, hWF⟩ : ∃ WF, WF = s2 w8 (w.heap.size + 3) (.slice none 0 0) (.int .i64 (0)) := ⟨_, rfl⟩
    rw [← hWF] at e0 e1 HFI
    have hWF' := hWF
    unfold s2 at hWF'
    rw [← hWF']
    clear hWF hWF'
    refine bodyPost_ret (by simp [results, Try.results22, go_sem, e0, e1]; rfl) rfl ?_
    obtain ⟨h1, h2, h3⟩ := (show _ ∧ _ ∧ _ from HFI)
    exact ⟨(.slice none 0 0), ([] : List Pv), 0, rfl, h1, h2, h3⟩
  have hcb : (c != 0) = false := by simp [hc]
  have hW := (show Kq w w4 ∧ w4.heap[w.heap.size]? = some (.cells #[.slice pa n ca, .int .i64 T] 40 (0, 0)) ∧ w4.heap[w.heap.size + 1]? = some (.cells #[.int .i64 k, .int .i64 m, .float .f64 g, .string x, .int .i64 r] 26 (0, 0)) ∧ w4.heap[w.heap.size + 2]? = some (.cells #[.int .i64 yk, .int .i64 ym, .float .f64 yg, .string yx, .int .i64 yr] 26 (0, 0)) ∧ w4.heap[w.heap.size + 3]? = some (.cells #[.slice none 0 0, .int .i64 0] 40 (0, 0)) ∧ w4.heap.size = w.heap.size + 4 from HW4)
  have b0 := Kq.cell HK8 (cell_of hW.2.1 (j := 0) rfl)
  have b1 := Kq.cell HK8 (cell_of hW.2.1 (j := 1) rfl)
  have y0 := Kq.cell HK8 (cell_of hW.2.2.2.1 (j := 0) rfl)
  have y1 := Kq.cell HK8 (cell_of hW.2.2.2.1 (j := 1) rfl)
  have y2 := Kq.cell HK8 (cell_of hW.2.2.2.1 (j := 2) rfl)
  have y3 := Kq.cell HK8 (cell_of hW.2.2.2.1 (j := 3) rfl)
  have y4 := Kq.cell HK8 (cell_of hW.2.2.2.1 (j := 4) rfl)
  have HP8 : Hid (Calls Try.prog 48 #[.agg #[.slice pa n ca, .int .i64 T], .agg #[.int .i64 uk, .int .i64 um, .float .f64 ug, .string ux, .int .i64 ur], .agg #[.int .i64 yk, .int .i64 ym, .float .f64 yg, .string yx, .int .i64 yr]] w8 fun e w' => ∃ v' L T', e = .returned (.agg #[v', .int .i64 T']) ∧ Pq L T' ∧ w'.ownsRow w8.heap.size 51 11 v' L.length (L.flatMap pcl) ∧ Kq w8 w') := (show tk → c = 0 → ∀ W, Kq w W → _ from HPUT) ht hc w8 (hW.1.trans HK8)
  have HPS : Hid (∀ L T', Pq L T' → Pu L T') := (fun L T' h => (show _ ∧ (∀ L T', tk → vk → c = 0 → Pq L T' → Pu L T') from HPT).2 L T' ht hv hc h : ∀ L T', _)
  have hz8 : w.heap.size + 4 ≤ w8.heap.size := by have h1 := hW.2.2.2.2.2; have h2 := (show Kq w4 w8 from HK8).size; omega
  clear hW HPUT HPT ht hv hc HA8
  go_wp2_with fail
  refine (show Calls Try.prog 48 #[.agg #[.slice pa n ca, .int .i64 T], .agg #[.int .i64 uk, .int .i64 um, .float .f64 ug, .string ux, .int .i64 ur], .agg #[.int .i64 yk, .int .i64 ym, .float .f64 yg, .string yx, .int .i64 yr]] w8 _ from HP8).mono ?_
  rintro e w9 ⟨v', L, T', rfl, hpq, hrw, k9⟩
  obtain ⟨ad', cap', rfl⟩ := row_shape hrw
  have hp : Pu L T' := (show ∀ L T', Pq L T' → Pu L T' from HPS) L T' hpq
  have HK9 : Hid (Kq w4 w9) := Kq.trans HK8 k9
  obtain ⟨r0, r1, z0, z1, e0, e1, hrow, hkq⟩ := tab_fin (show Kq w w4 ∧ w4.heap[w.heap.size]? = some (.cells #[.slice pa n ca, .int .i64 T] 40 (0, 0)) ∧ w4.heap[w.heap.size + 1]? = some (.cells #[.int .i64 k, .int .i64 m, .float .f64 g, .string x, .int .i64 r] 26 (0, 0)) ∧ w4.heap[w.heap.size + 2]? = some (.cells #[.int .i64 yk, .int .i64 ym, .float .f64 yg, .string yx, .int .i64 yr] 26 (0, 0)) ∧ w4.heap[w.heap.size + 3]? = some (.cells #[.slice none 0 0, .int .i64 0] 40 (0, 0)) ∧ w4.heap.size = w.heap.size + 4 from HW4).1 (show Kq w4 w9 from HK9) (show Kq w w4 ∧ w4.heap[w.heap.size]? = some (.cells #[.slice pa n ca, .int .i64 T] 40 (0, 0)) ∧ w4.heap[w.heap.size + 1]? = some (.cells #[.int .i64 k, .int .i64 m, .float .f64 g, .string x, .int .i64 r] 26 (0, 0)) ∧ w4.heap[w.heap.size + 2]? = some (.cells #[.int .i64 yk, .int .i64 ym, .float .f64 yg, .string yx, .int .i64 yr] 26 (0, 0)) ∧ w4.heap[w.heap.size + 3]? = some (.cells #[.slice none 0 0, .int .i64 0] 40 (0, 0)) ∧ w4.heap.size = w.heap.size + 4 from HW4).2.2.2.2.2 (show Kq w w4 ∧ w4.heap[w.heap.size]? = some (.cells #[.slice pa n ca, .int .i64 T] 40 (0, 0)) ∧ w4.heap[w.heap.size + 1]? = some (.cells #[.int .i64 k, .int .i64 m, .float .f64 g, .string x, .int .i64 r] 26 (0, 0)) ∧ w4.heap[w.heap.size + 2]? = some (.cells #[.int .i64 yk, .int .i64 ym, .float .f64 yg, .string yx, .int .i64 yr] 26 (0, 0)) ∧ w4.heap[w.heap.size + 3]? = some (.cells #[.slice none 0 0, .int .i64 0] 40 (0, 0)) ∧ w4.heap.size = w.heap.size + 4 from HW4).2.2.2.2.1 (.slice ad' L.length cap') (T')
  have HFI : Hid (Pu L (T') ∧ (s2 w9 (w.heap.size + 3) (.slice ad' L.length cap') (.int .i64 (T'))).ownsRow w.heap.size 51 11 (.slice ad' L.length cap') (L).length ((L).flatMap pcl) ∧ Kq w (s2 w9 (w.heap.size + 3) (.slice ad' L.length cap') (.int .i64 (T')))) := (⟨hp, hrow _ _ _ hz8 hrw, hkq⟩ : _ ∧ _ ∧ _)
  clear hrow hkq
  clear HP8 HPS hpq hrw k9 HK8 HK9 hp HW4 b0 b1 y0 y1 y2 y3 y4 a0 a1 a2 a3 a4 a5
  go_wp2_with fail
  obtain ⟨WF, hWF⟩ : ∃ WF, WF = s2 w9 (w.heap.size + 3) (.slice ad' L.length cap') (.int .i64 (T')) := ⟨_, rfl⟩
  rw [← hWF] at e0 e1 HFI
  have hWF' := hWF
  unfold s2 at hWF'
  rw [← hWF']
  clear hWF hWF'
  refine bodyPost_ret (by simp [results, Try.results22, go_sem, e0, e1]; rfl) rfl ?_
  obtain ⟨h1, h2, h3⟩ := (show _ ∧ _ ∧ _ from HFI)
  exact ⟨(.slice ad' L.length cap'), L, T', rfl, h1, h2, h3⟩
end Go.Proofs.Ytfpidccjcemcjaa
namespace Go.Proofs.Ytfpidccjcemcjaa
open Go.ChangeShapes Go.WideShapes Go.ChangeAt Go.RowKit
set_option linter.unusedVariables false
set_option maxRecDepth 100000
theorem setCells_blk (b : Nat) (t : TypeId) (fz : Nat × Nat) : ∀ (vs : List Value) (o : Nat) (w : World) (cur : Array Value), w.heap[b]? = some (.cells cur t fz) → o + vs.length ≤ cur.size → ∃ cur', (w.setCells b o vs).heap[b]? = some (.cells cur' t fz) ∧ cur'.size = cur.size ∧ cur'.toList = cur.toList.take o ++ vs ++ cur.toList.drop (o + vs.length)
  | [], o, w, cur, h, hl => ⟨cur, h, rfl, by simp⟩
  | v :: r, o, w, cur, h, hl => by
    have h1 : (w.setCell ⟨b, o, none⟩ v).heap[b]? = some (.cells (cur.setIfInBounds o v) t fz) := by
      simp [World.setCell, Array.getElem?_modify, h]
    simp only [List.length_cons] at hl
    obtain ⟨c', e1, e2, e3⟩ := setCells_blk b t fz r (o + 1) _ _ h1 (by simp; omega)
    refine ⟨c', e1, by rw [e2]; simp, ?_⟩
    rw [e3, Array.toList_setIfInBounds]
    have hlt : o < cur.toList.length := by simpa using (by omega : o < cur.size)
    rw [List.set_eq_take_append_cons_drop, if_pos hlt]
    have ho : (cur.toList.take o).length = o := by rw [List.length_take]; omega
    have q1 : (cur.toList.take o ++ v :: cur.toList.drop (o + 1)).take (o + 1) = cur.toList.take o ++ [v] := by
      rw [List.take_append, ho, List.take_of_length_le (by omega), show o + 1 - o = 1 by omega]
      simp
    have q2 : (cur.toList.take o ++ v :: cur.toList.drop (o + 1)).drop (o + 1 + r.length) = cur.toList.drop (o + (v :: r).length) := by
      rw [List.drop_append, ho, List.drop_eq_nil_of_le (by omega), show o + 1 + r.length - o = r.length + 1 by omega, List.drop_succ_cons, List.drop_drop, List.length_cons, List.nil_append]
      congr 1
      omega
    rw [q1, q2]
    simp
theorem setCells_oth (b k : Nat) (hk : k ≠ b) : ∀ (vs : List Value) (o : Nat) (w : World), (w.setCells b o vs).heap[k]? = w.heap[k]? ∧ (w.setCells b o vs).os = w.os ∧ (w.setCells b o vs).output = w.output ∧ (w.setCells b o vs).heap.size = w.heap.size
  | [], o, w => ⟨rfl, rfl, rfl, rfl⟩
  | v :: r, o, w => by
    obtain ⟨e1, e2, e3, e4⟩ := setCells_oth b k hk r (o + 1) (w.setCell ⟨b, o, none⟩ v)
    exact ⟨e1.trans (Below.heap_setCell _ _ _ _ hk), e2.trans (by simp [World.setCell]), e3.trans (by simp [World.setCell]), e4.trans (by simp)⟩
theorem run_clear11 (w : World) (ty b o c : Nat) (cur : Array Value) (t : TypeId) (h : w.heap[b]? = some (.cells cur t (0, 0))) (ho : o + 11 ≤ cur.size) :
    (Builtin.clear_ #[38] ty #[.slice (some ⟨b, o, none⟩) 1 c]).run Try.prog w = .ok (.tuple #[]) (w.setCells b o z11.cells.toList) := by
  have hv : ∀ w, (zeroValue 51).run Try.prog w = .ok z11 w := fun w => by first | exact Try.zeroValue51 w | rfl
  have hzc : (Builtin.zeroCells z11.cells 1).toList = z11.cells.toList := by first | kernel_rfl | rfl
  have hst := run_storeCells_cells (P := Try.prog) b o z11.cells.toList 0 w (fun j hj => by
    have hj' : j < 11 := hj
    have : w.cell? ⟨b, o + 0 + j, none⟩ = some (cur[o + 0 + j]'(by omega)) := cell_of h (by rw [Array.getElem?_eq_getElem])
    rw [this]; rfl) (fun j hj => by simp [World.frozen?, h]) (by decide)
  simp only [Nat.add_zero] at hst
  simp [Builtin.clear_, run_underlying Try.underlying38, hv, hzc, hst]
end Go.Proofs.Ytfpidccjcemcjaa
namespace Go.Proofs.Ytfpidccjcemcjaa
open Go.ChangeShapes Go.WideShapes Go.ChangeAt Go.RowKit
set_option linter.unusedVariables false
set_option maxRecDepth 100000
set_option maxHeartbeats 16000000 in
theorem im_delete {W : World} {g cap i m : Nat} {cur : Array Value} (hb : W.heap[g]? = some (.cells cur 51 (0, 0))) (hc : i + 1 + m ≤ cap) (hm : cap ≤ maxLen) (hs : cur.size = cap * 11) (h1c : ∀ u ∈ cur.toList.take ((i + 1 + m) * 11), u.oneCell' = true) (hn : i + 1 + m ≤ 1000) :
    Calls Try.prog 70 #[.slice (some ⟨g, 0, none⟩) (i + 1 + m) cap, .int .i64 (i : Int), .int .i64 ((i : Int) + 1)] W fun e W' => e = .returned (.slice (some ⟨g, 0, none⟩) (i + m) cap) ∧ (∃ cur', W'.heap[g]? = some (.cells cur' 51 (0, 0)) ∧ cur'.size = cap * 11 ∧ cur'.toList.take ((i + m) * 11) = cur.toList.take (i * 11) ++ (cur.toList.drop ((i + 1) * 11)).take (m * 11)) ∧ (∀ k, k ≠ g → W'.heap[k]? = W.heap[k]?) ∧ W'.os = W.os ∧ W'.output = W.output ∧ W'.heap.size = W.heap.size := by
  obtain ⟨news, hnews⟩ : ∃ news, news = (cur.toList.drop ((i + 1) * 11)).take (m * 11) := ⟨_, rfl⟩
  have hcl : cur.toList.length = cap * 11 := by simpa using hs
  have hlen : news.length = m * 11 := by rw [hnews, List.length_take, List.length_drop, hcl]; omega
  have hnat : ∀ t u, news[t]? = some u → cur[(i + 1) * 11 + t]? = some u := by
    intro t u hu
    rw [hnews, List.getElem?_take] at hu
    split at hu
    · rw [List.getElem?_drop] at hu
      simpa using hu
    · cases hu
  obtain ⟨A, hA, hsrc⟩ : ∃ A : Addr, (if cap = i + 1 then some (⟨g, 0, none⟩ : Addr) else some ⟨g, (i + 1) * 11, none⟩) = some A ∧ Hid (∀ t u, news[t]? = some u → W.drew.cell? (A.add t) = some u) := by
    by_cases h : cap = i + 1
    · refine ⟨⟨g, 0, none⟩, by rw [if_pos h], fun t u hu => ?_⟩
      have h0 : news.length = 0 := by rw [hlen]; omega
      rw [List.length_eq_zero_iff.1 h0] at hu
      simp at hu
    · refine ⟨⟨g, (i + 1) * 11, none⟩, by rw [if_neg h], fun t u hu => ?_⟩
      rw [Addr.add_lit]
      show W.cell? _ = _
      exact cell_of hb (hnat t u hu)
  have s1 : Hid (news.length = m * 11) := hlen
  have s2 : Hid (∀ u ∈ news, u.oneCell' = true) := by
    intro u hu
    obtain ⟨t, ht⟩ := List.getElem?_of_mem hu
    have h1 := hnat t u ht
    have h2 : t < m * 11 := by rw [← hlen]; exact (List.getElem?_eq_some_iff.1 ht).1
    refine h1c u (List.mem_of_getElem? (i := (i + 1) * 11 + t) ?_)
    rw [List.getElem?_take, if_pos (by omega)]
    simpa using h1
  have s3 : Hid (∀ t, t < news.length → (W.drew.cell? ⟨g, 0 + i * 11 + t, none⟩).isSome = true ∧ W.drew.frozen? ⟨g, 0 + i * 11 + t, none⟩ = false) := by
    intro t ht
    rw [hlen] at ht
    refine ⟨?_, ?_⟩
    · show (W.cell? _).isSome = true
      have : W.cell? ⟨g, 0 + i * 11 + t, none⟩ = some (cur[0 + i * 11 + t]'(by omega)) := cell_of hb (by rw [Array.getElem?_eq_getElem])
      rw [this]; rfl
    · show W.frozen? _ = false
      simp [World.frozen?, hb]
  obtain ⟨W1, hW1⟩ : ∃ W1, W1 = W.drew.setCells g (0 + i * 11) news := ⟨_, rfl⟩
  obtain ⟨cur1, c1, z1, l1⟩ := setCells_blk g 51 (0, 0) news (0 + i * 11) W.drew cur hb (by rw [hlen]; omega)
  rw [← hW1] at c1
  have hclr : ∀ ty, (Builtin.clear_ #[38] ty #[.slice (some ⟨g, (i + m) * 11, none⟩) 1 (cap - (i + m))]).run Try.prog W1 = .ok (.tuple #[]) (W1.setCells g ((i + m) * 11) z11.cells.toList) := fun ty => run_clear11 W1 ty g ((i + m) * 11) _ cur1 _ c1 (by rw [z1, hs]; omega)
  obtain ⟨cur2, c2, z2, l2⟩ := setCells_blk g 51 (0, 0) z11.cells.toList ((i + m) * 11) W1 cur1 c1 (by rw [z1, hs]; show (i + m) * 11 + 11 ≤ _; omega)
  have HEND0 : (∃ cur', (W1.setCells g ((i + m) * 11) z11.cells.toList).heap[g]? = some (.cells cur' 51 (0, 0)) ∧ cur'.size = cap * 11 ∧ cur'.toList.take ((i + m) * 11) = cur.toList.take (i * 11) ++ news) ∧ (∀ k, k ≠ g → (W1.setCells g ((i + m) * 11) z11.cells.toList).heap[k]? = W.heap[k]?) ∧ (W1.setCells g ((i + m) * 11) z11.cells.toList).os = W.os ∧ (W1.setCells g ((i + m) * 11) z11.cells.toList).output = W.output ∧ (W1.setCells g ((i + m) * 11) z11.cells.toList).heap.size = W.heap.size := by
    have e1 : ∀ k, k ≠ g → _ := fun k hk => setCells_oth g k hk z11.cells.toList ((i + m) * 11) W1
    have e2 : ∀ k, k ≠ g → _ := fun k hk => setCells_oth g k hk news (0 + i * 11) W.drew
    rw [← hW1] at e2
    have q1 := e1 (g + 1) (by omega)
    have q2 := e2 (g + 1) (by omega)
    refine ⟨⟨cur2, c2, by rw [z2, z1, hs], ?_⟩, fun k hk => (e1 k hk).1.trans (e2 k hk).1, q1.2.1.trans q2.2.1, q1.2.2.1.trans q2.2.2.1, q1.2.2.2.trans q2.2.2.2⟩
    have hl1 : cur1.toList.length = cap * 11 := by rw [Array.length_toList, z1, hs]
    have hti : (cur.toList.take (i * 11)).length = i * 11 := by rw [List.length_take, hcl]; omega
    have f1 : cur2.toList.take ((i + m) * 11) = cur1.toList.take ((i + m) * 11) := by
      rw [l2, List.append_assoc, List.take_append, List.length_take, hl1, Nat.min_eq_left (by omega), Nat.sub_self, List.take_zero, List.append_nil, List.take_take, Nat.min_self]
    rw [f1, l1, Nat.zero_add, List.take_append, List.length_append, hti, hlen, show (i + m) * 11 - (i * 11 + m * 11) = 0 by omega, List.take_zero, List.append_nil]
    exact List.take_of_length_le (by rw [List.length_append, hti, hlen]; omega)
  obtain ⟨W2, hW2⟩ : ∃ W2, W2 = W1.setCells g ((i + m) * 11) z11.cells.toList := ⟨_, rfl⟩
  rw [← hW2] at HEND0 hclr
  have HEND : Hid ((∃ cur', W2.heap[g]? = some (.cells cur' 51 (0, 0)) ∧ cur'.size = cap * 11 ∧ cur'.toList.take ((i + m) * 11) = cur.toList.take (i * 11) ++ news) ∧ (∀ k, k ≠ g → W2.heap[k]? = W.heap[k]?) ∧ W2.os = W.os ∧ W2.output = W.output ∧ W2.heap.size = W.heap.size) := HEND0
  rw [← hnews]
  obtain ⟨i0, hi0, hz0, hz1, hz2⟩ := info_parts infoPair
  have HI0 : Hid (Try.prog.info? 51 = some i0) := hi0
  have hW : Hid (W1 = W.drew.setCells g (0 + i * 11) news) := hW1
  have hcI : ((i : Int) + 1 + (m : Int)) ≤ (cap : Int) := by omega
  have hic : i ≤ cap := by omega
  have hjc : i + 1 ≤ cap := by omega
  have h01 : 0 ≤ (i : Int) + 1 := by omega
  have h02 : (i : Int) + 1 ≤ (i : Int) + 1 + (m : Int) := by omega
  clear HEND0 hW1 hW2 c1 z1 l1 c2 z2 l2 hb hs h1c hcl hlen hnat hnews hi0
  go_enter Try.func70, Try.ntmps70
  go_wp2_with fail
  go_region_law (refine step_append_room rfl (.tmp 22) (.tmp 25) 38 rfl 51 i0 11 Try.underlying38 HI0 hz1 g 0 i cap (by simp [Act.eval, Act.put]) A m (cap - (i + 1)) news (by simp [Act.eval, Act.put]) s1 hsrc s2 (by omega) s3 ?_; rw [← (show W1 = _ from hW)])
  have hs1 : i + 1 + m - (i + m) = 1 := by omega
  have hne : ¬ cap = i + m := by omega
  have h03 : (i : Int) + (m : Int) ≤ (i : Int) + 1 + (m : Int) := by omega
  have h04 : 0 ≤ (i : Int) + (m : Int) := by omega
  clear s1 s2 s3 hsrc hA h01 h02 hjc hW
  go_wp2_with fail
  go_ret
  exact ⟨rfl, HEND⟩
end Go.Proofs.Ytfpidccjcemcjaa
namespace Go.Proofs.Ytfpidccjcemcjaa
open Go.ChangeShapes Go.WideShapes Go.ChangeAt Go.RowKit
set_option linter.unusedVariables false
set_option maxRecDepth 100000
theorem run_delMk {w : World} {M : Nat} {L : List (Vv × Int)} (h : Mp w M L) (m : Vv) (kt ty : TypeId) : ∃ o, (Builtin.delete_ #[72, kt] ty #[.map (some M), mkw m]).run Try.prog w = .ok (.tuple #[]) (setB w M o) := by
  obtain ⟨es, clock, hb, he⟩ := h
  obtain ⟨r, hr, hv⟩ := run_findMk m w es.toList L he
  cases r with
  | none =>
    refine ⟨.map es clock, ?_⟩
    unfold Builtin.delete_
    simp [run_underlying tM, MapKept.run_getObj_map hb, run_checkMk, hr, MapKept.run_setObj_map _ hb]
    rfl
  | some p =>
    obtain ⟨i, v⟩ := p
    refine ⟨.map (es.eraseIdxIfInBounds i) clock, ?_⟩
    unfold Builtin.delete_
    simp [run_underlying tM, MapKept.run_getObj_map hb, run_checkMk, hr, MapKept.run_setObj_map _ hb]
    rfl
theorem setB_oth (w : World) (M : Nat) (o : Obj) (b : Nat) (hb : b ≠ M) : (setB w M o).heap[b]? = w.heap[b]? := by
  unfold setB
  show (w.heap.setIfInBounds M o)[b]? = _
  rw [Array.getElem?_setIfInBounds]
  rw [if_neg (fun e => hb e.symm)]
/-- a ledger's pairs and Turns -/
structure Lp (w : World) (B M : Nat) (pre : List Pv) (v : Value) (T : Int) (W : World) : Prop where
  kq : Kq w W
  lo : w.heap.size ≤ M
  mb : M < B
  ob : W.heap[B]? = some (.cells #[v, .int .i64 T, .map (some M)] 74 (0, 0))
  row : W.ownsRow (B + 1) 51 11 v pre.length (pre.flatMap pcl)
theorem Lg.lp {w : World} {B M : Nat} {pre : List Pv} {v : Value} {T : Int} {W : World} (h : Lg w B M pre v T W) : Lp w B M pre v T W := ⟨h.kq, h.lo, h.mb, h.ob, h.row⟩
theorem Lp.on {w : World} {B M : Nat} {pre : List Pv} {v : Value} {T : Int} {W W' : World} (h : Lp w B M pre v T W) (k : Kq W W') : Lp w B M pre v T W' :=
  ⟨h.kq.trans k, h.lo, h.mb, (k.block _ (lt_of_obj h.ob)).trans h.ob, rowBlk h.row (fun g e => k.block g (h.row.lt g e).2)⟩
theorem Lp.setB {w : World} {B M : Nat} {pre : List Pv} {v : Value} {T : Int} {W : World} (h : Lp w B M pre v T W) (o : Obj) : Lp w B M pre v T (setB W M o) := by
  have hlo := h.lo
  have hmb := h.mb
  refine ⟨⟨h.kq.os, h.kq.output, by unfold Ytfpidccjcemcjaa.setB; simpa using h.kq.size, fun b hb => (setB_oth W M o b (by omega)).trans (h.kq.block b hb)⟩, h.lo, h.mb, (setB_oth W M o B (by omega)).trans h.ob, rowBlk h.row (fun g e => setB_oth W M o g (by have := (h.row.lt g e).1; omega))⟩
theorem Lg.turn {w : World} {B M : Nat} {pre : List Pv} {v : Value} {T : Int} {W : World} (h : Lg w B M pre v T W) (t : Int) : Lg w B M pre v t (W.setCell ⟨B, 1, none⟩ (.int .i64 t)) := by
  have hse : ∀ k, k ≠ B → (W.setCell ⟨B, 1, none⟩ (.int .i64 t)).heap[k]? = W.heap[k]? := fun k hne => Below.heap_setCell W _ _ _ hne
  have hlo := h.lo
  have hmb := h.mb
  refine ⟨⟨h.kq.os, h.kq.output, by have := h.kq.size; simpa using this, fun k hk => (hse k (by omega)).trans (h.kq.block k hk)⟩, h.lo, h.mb, ?_, rowBlk h.row (fun g e => hse g (by have := (h.row.lt g e).1; omega)), ?_⟩
  · simp [World.setCell, Array.getElem?_modify, h.ob]
  · obtain ⟨es, clock, hb, he⟩ := h.mp
    exact ⟨es, clock, (hse M (by omega)).trans hb, he⟩
theorem pcl_one (P : List Pv) : ∀ u ∈ P.flatMap pcl, u.oneCell' = true := by
  intro u hu
  obtain ⟨p, _, hp⟩ := List.mem_flatMap.1 hu
  unfold pcl at hp
  simp at hp
  rcases hp with rfl | rfl | rfl | rfl | rfl | rfl | rfl | rfl | rfl | rfl | rfl <;> rfl
theorem flat_len (P : List Pv) : (P.flatMap pcl).length = P.length * 11 := by
  induction P with
  | nil => rfl
  | cons p P ih => rw [List.flatMap_cons, List.length_append, ih, List.length_cons]; show 11 + _ = _; omega
theorem lsp_cut (F : Nat → Pv) (r m : Nat) : lsp F (r + 1 + m) = lsp F r ++ F r :: (List.range m).map (fun j => F (r + 1 + j)) := by
  induction m with
  | zero => simp [lsp_succ]
  | succ m ih => rw [← Nat.add_assoc, lsp_succ, ih, List.range_succ, List.map_append, List.append_assoc, List.cons_append]; rfl
/-- the pairs but number r -/
def cutl (F : Nat → Pv) (r m : Nat) : List Pv := lsp F r ++ (List.range m).map (fun j => F (r + 1 + j))
/-- the pairs, number r with another value -/
def setl (F : Nat → Pv) (r m : Nat) (y : Vv) : List Pv := lsp F r ++ ⟨(F r).a, y, (F r).t⟩ :: (List.range m).map (fun j => F (r + 1 + j))
theorem putl_no {F : Nat → Pv} {u y : Vv} : ∀ n, (∀ j, j < n → ¬ mk (F j).a = mk u) → (∀ j, j < n → ¬ (F j).b.k = 0) → putl F u y n = lsp F n
  | 0, _, _ => rfl
  | n + 1, h1, h2 => by
    show putl F u y n ++ put1 u y (F n) = _
    rw [putl_no n (fun j hj => h1 j (by omega)) (fun j hj => h2 j (by omega)), lsp_succ]
    unfold put1
    rw [dc_f (h1 n (by omega)), if_neg (by simp), if_neg (h2 n (by omega))]
theorem putl_at {F : Nat → Pv} {u y : Vv} {r : Nat} (hr : mk (F r).a = mk u) : ∀ m, (∀ j, j < r + 1 + m → j ≠ r → ¬ mk (F j).a = mk u) → (∀ j, j < r + 1 + m → ¬ (F j).b.k = 0) → putl F u y (r + 1 + m) = lsp F r ++ (if y.k = 0 then [] else [⟨(F r).a, y, (F r).t⟩]) ++ (List.range m).map (fun j => F (r + 1 + j))
  | 0, h1, h2 => by
    show putl F u y r ++ put1 u y (F r) = _
    rw [putl_no r (fun j hj => h1 j (by omega) (by omega)) (fun j hj => h2 j (by omega))]
    unfold put1
    rw [dc_t hr, if_pos rfl]
    simp
  | m + 1, h1, h2 => by
    show putl F u y (r + 1 + m) ++ put1 u y (F (r + 1 + m)) = _
    rw [putl_at hr m (fun j hj => h1 j (by omega)) (fun j hj => h2 j (by omega)), List.range_succ, List.map_append, ← List.append_assoc]
    unfold put1
    rw [dc_f (h1 (r + 1 + m) (by omega) (by omega))]
    simp only [Bool.false_eq_true, if_false]
    rw [if_neg (h2 (r + 1 + m) (by omega))]
    rfl
theorem cut_list {α : Type} {c X Y Z : List α} {a b m : Nat} (h : c.take (a + b + m) = X ++ (Y ++ Z)) (hX : X.length = a) (hY : Y.length = b) : c.take a = X ∧ (c.drop a).take b = Y ∧ (c.drop (a + b)).take m = Z := by
  have k1 := congrArg (List.take a) h
  rw [List.take_take, Nat.min_eq_left (by omega), List.take_left' hX] at k1
  have k2 := congrArg (fun l => (l.drop a).take b) h
  rw [List.drop_take, List.take_take, Nat.min_eq_left (by omega), List.drop_left' hX, List.take_left' hY] at k2
  have k3 := congrArg (List.drop (a + b)) h
  rw [List.drop_take, show a + b + m - (a + b) = m by omega, ← List.append_assoc, List.drop_left' (by rw [List.length_append, hX, hY])] at k3
  exact ⟨k1, k2, k3⟩
theorem cut_cells {cur : Array Value} {F : Nat → Pv} {r m : Nat} (h : cur.toList.take ((r + 1 + m) * 11) = (lsp F (r + 1 + m)).flatMap pcl) : cur.toList.take (r * 11) = (lsp F r).flatMap pcl ∧ (cur.toList.drop (r * 11)).take 11 = pcl (F r) ∧ (cur.toList.drop ((r + 1) * 11)).take (m * 11) = ((List.range m).map (fun j => F (r + 1 + j))).flatMap pcl := by
  rw [lsp_cut, List.flatMap_append, List.flatMap_cons, show (r + 1 + m) * 11 = r * 11 + 11 + m * 11 by omega] at h
  rw [show (r + 1) * 11 = r * 11 + 11 by omega]
  exact cut_list h (by rw [flat_len, lsp_len]) rfl
/-- slices.Delete of a ledger's pairs -/
theorem Lg.cut {w : World} {B M : Nat} {F : Nat → Pv} {r m : Nat} {v : Value} {T : Int} {W : World} (h : Lg w B M (lsp F (r + 1 + m)) v T W) (hn : r + 1 + m ≤ 1000) : ∃ g cap, v = .slice (some ⟨g, 0, none⟩) (r + 1 + m) cap ∧
    Calls Try.prog 70 #[.slice (some ⟨g, 0, none⟩) (r + 1 + m) cap, .int .i64 (r : Int), .int .i64 ((r : Int) + 1)] W fun e W' => e = .returned (.slice (some ⟨g, 0, none⟩) (r + m) cap) ∧ W'.cell? ⟨B, 0, none⟩ = some v ∧ W'.frozen? ⟨B, 0, none⟩ = false ∧ Lp w B M (cutl F r m) (.slice (some ⟨g, 0, none⟩) (r + m) cap) T (W'.setCell ⟨B, 0, none⟩ (.slice (some ⟨g, 0, none⟩) (r + m) cap)) ∧ (∀ b, b ≠ B → some b ≠ v.ownBlock → (W'.setCell ⟨B, 0, none⟩ (.slice (some ⟨g, 0, none⟩) (r + m) cap)).heap[b]? = W.heap[b]?) := by
  have hrow := h.row
  rw [lsp_len] at hrow
  rcases hrow.2 with ⟨_, e⟩ | ⟨g, cap, cur, rfl, hb, hg, hc, hm, hs, ht⟩
  · omega
  have hlo := h.lo
  have hmb := h.mb
  refine ⟨g, cap, rfl, (im_delete hg hc hm hs (by rw [ht]; exact pcl_one _) hn).mono ?_⟩
  rintro e W' ⟨rfl, ⟨cur', q1, q2, q3⟩, q4, q5, q6, q7⟩
  obtain ⟨p1, _, p2⟩ := cut_cells ht
  rw [p1, p2] at q3
  have hB' := (q4 B (by omega)).trans h.ob
  have hse : ∀ k, k ≠ B → (W'.setCell ⟨B, 0, none⟩ (.slice (some ⟨g, 0, none⟩) (r + m) cap)).heap[k]? = W'.heap[k]? := fun k hne => Below.heap_setCell W' _ _ _ hne
  have hll : (cutl F r m).length = r + m := by unfold cutl; rw [List.length_append, lsp_len]; simp
  refine ⟨rfl, cell_of hB' rfl, by simp [World.frozen?, hB'], ⟨⟨q5.trans h.kq.os, q6.trans h.kq.output, by have := h.kq.size; simp; omega, fun k hk => ((hse k (by omega)).trans (q4 k (by omega))).trans (h.kq.block k hk)⟩, h.lo, h.mb, ?_, ?_⟩, fun b hb1 hb2 => (hse b hb1).trans (q4 b (fun e => hb2 (by rw [e]; rfl)))⟩
  · simp [World.setCell, Array.getElem?_modify, hB']
  · rw [hll]
    refine ⟨by rw [flat_len, hll], .inr ⟨g, cap, cur', rfl, hb, (hse g (by omega)).trans q1, by omega, hm, q2, ?_⟩⟩
    rw [q3]
    unfold cutl
    rw [List.flatMap_append]
/-- a pair's value set -/
theorem Lg.put5 {w : World} {B M : Nat} {F : Nat → Pv} {r m : Nat} {v : Value} {T : Int} {W : World} (h : Lg w B M (lsp F (r + 1 + m)) v T W) (yk ym : Int) (yg : Nat) (yx : ByteArray) (yr : Int) : ∃ g cap, v = .slice (some ⟨g, 0, none⟩) (r + 1 + m) cap ∧ r + 1 + m ≤ cap ∧ Cp W ⟨g, r * 11, none⟩ (F r) ∧ (∀ j, W.frozen? ⟨g, j, none⟩ = false) ∧
    Lp w B M (setl F r m ⟨yk, ym, yg, yx, yr⟩) (.slice (some ⟨g, 0, none⟩) (r + 1 + m) cap) T (W.setCells g (r * 11 + 5) [.int .i64 yk, .int .i64 ym, .float .f64 yg, .string yx, .int .i64 yr]) := by
  have hrow := h.row
  rw [lsp_len] at hrow
  rcases hrow.2 with ⟨_, e⟩ | ⟨g, cap, cur, rfl, hb, hg, hc, hm, hs, ht⟩
  · omega
  have hlo := h.lo
  have hmb := h.mb
  have he : (lsp F (r + 1 + m))[r]? = some (F r) := by
    have hi : r < r + 1 + m := by omega
    simp [lsp, hi]
  have rr : ∀ t, t < 11 → W.cell? ⟨g, r * 11 + t, none⟩ = (pcl (F r))[t]? := fun t ht => (hrow.cellAt (r * 11 + t) (by omega)).trans (flat_at _ r t _ he ht)
  refine ⟨g, cap, rfl, hc, ⟨rr 0 (by omega), rr 1 (by omega), rr 2 (by omega), rr 3 (by omega), rr 4 (by omega), rr 5 (by omega), rr 6 (by omega), rr 7 (by omega), rr 8 (by omega), rr 9 (by omega), rr 10 (by omega)⟩, fun j => by simp [World.frozen?, hg], ?_⟩
  obtain ⟨cur', q1, q2, q3⟩ := setCells_blk g 51 (0, 0) [.int .i64 yk, .int .i64 ym, .float .f64 yg, .string yx, .int .i64 yr] (r * 11 + 5) W cur hg (by show r * 11 + 5 + 5 ≤ _; omega)
  have q4 : ∀ k, k ≠ g → _ := fun k hk => setCells_oth g k hk [.int .i64 yk, .int .i64 ym, .float .f64 yg, .string yx, .int .i64 yr] (r * 11 + 5) W
  generalize W.setCells g (r * 11 + 5) [.int .i64 yk, .int .i64 ym, .float .f64 yg, .string yx, .int .i64 yr] = W' at q1 q4 ⊢
  have hll : (setl F r m ⟨yk, ym, yg, yx, yr⟩).length = r + 1 + m := by unfold setl; rw [List.length_append, lsp_len]; simp; omega
  have q5 := q4 (g + 1) (by omega)
  refine ⟨⟨q5.2.1.trans h.kq.os, q5.2.2.1.trans h.kq.output, by rw [q5.2.2.2]; exact h.kq.size, fun k hk => (q4 k (by omega)).1.trans (h.kq.block k hk)⟩, h.lo, h.mb, (q4 B (by omega)).1.trans h.ob, ?_⟩
  rw [hll]
  refine ⟨by rw [flat_len, hll], .inr ⟨g, cap, cur', rfl, hb, q1, hc, hm, by rw [q2]; exact hs, ?_⟩⟩
  obtain ⟨p1, p2, p3⟩ := cut_cells ht
  have hcl : cur.toList.length = cap * 11 := by simpa using hs
  -- the five parts of the row
  have hp : cur.toList = (lsp F r).flatMap pcl ++ (pcl (F r) ++ cur.toList.drop (r * 11 + 11)) := by
    rw [← p1, ← p2, ← List.drop_drop, List.take_append_drop, List.take_append_drop]
  have l1 : ((lsp F r).flatMap pcl).length = r * 11 := by rw [flat_len, lsp_len]
  have t1 : cur.toList.take (r * 11 + 5) = (lsp F r).flatMap pcl ++ (pcl (F r)).take 5 := by
    rw [hp, List.take_append, l1, List.take_of_length_le (by omega), show r * 11 + 5 - r * 11 = 5 by omega, List.take_append, show 5 - (pcl (F r)).length = 0 from rfl, List.take_zero, List.append_nil]
  have t2 : cur.toList.drop (r * 11 + 5 + 5) = (pcl (F r)).drop 10 ++ cur.toList.drop (r * 11 + 11) := by
    have e0 : ∀ Z : List Value, ((lsp F r).flatMap pcl ++ (pcl (F r) ++ Z)).drop (r * 11 + 5 + 5) = (pcl (F r)).drop 10 ++ Z := fun Z => by
      rw [List.drop_append, l1, List.drop_eq_nil_of_le (by omega), show r * 11 + 5 + 5 - r * 11 = 10 by omega, List.nil_append, List.drop_append, show 10 - (pcl (F r)).length = 0 from rfl, List.drop_zero]
    have e1 := e0 (cur.toList.drop (r * 11 + 11))
    rw [← hp] at e1
    exact e1
  rw [q3]
  show (List.take (r * 11 + 5) cur.toList ++ [(.int .i64 yk : Value), .int .i64 ym, .float .f64 yg, .string yx, .int .i64 yr] ++ List.drop (r * 11 + 5 + 5) cur.toList).take ((r + 1 + m) * 11) = _
  rw [t1, t2]
  unfold setl
  rw [List.flatMap_append, List.flatMap_cons]
  have e2 : (lsp F r).flatMap pcl ++ (pcl (F r)).take 5 ++ [(.int .i64 yk : Value), .int .i64 ym, .float .f64 yg, .string yx, .int .i64 yr] ++ ((pcl (F r)).drop 10 ++ cur.toList.drop (r * 11 + 11)) = (lsp F r).flatMap pcl ++ (pcl ⟨(F r).a, ⟨yk, ym, yg, yx, yr⟩, (F r).t⟩ ++ cur.toList.drop (r * 11 + 11)) := by
    simp only [List.append_assoc]
    rfl
  rw [e2, List.take_append, l1, List.take_of_length_le (l := (lsp F r).flatMap pcl) (by omega), List.take_append, List.take_of_length_le (l := pcl ⟨(F r).a, ⟨yk, ym, yg, yx, yr⟩, (F r).t⟩) (by show 11 ≤ _; omega)]
  rw [show (r + 1 + m) * 11 - r * 11 - (pcl ⟨(F r).a, ⟨yk, ym, yg, yx, yr⟩, (F r).t⟩).length = m * 11 by show (r + 1 + m) * 11 - r * 11 - 11 = _; omega, show r * 11 + 11 = (r + 1) * 11 by omega, p3]
end Go.Proofs.Ytfpidccjcemcjaa
