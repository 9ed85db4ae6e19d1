import Derived.Test.YtgocahalfanpjaaDoorTrf
namespace Go.Proofs.YtgocahalfanpjaaDoor.Fo
open Go.ChangeShapes Go.WideShapes Go.ChangeAt Go.RowKit
set_option linter.unusedVariables false
set_option maxRecDepth 100000

/-- cells of names that were looked for -/
def fcl (F : Nat → Int × List UInt8) : Nat → List Value
  | 0 => []
  | i + 1 => fcl F i ++ [.int .i64 (F i).1, .string (bt (F i).2)]
theorem fcl_len (F : Nat → Int × List UInt8) : ∀ i, (fcl F i).length = i * 2
  | 0 => rfl
  | i + 1 => by show (fcl F i ++ [_, _]).length = _; rw [List.length_append, fcl_len F i]; show i * 2 + 2 = _; omega
theorem fcl_at (F : Nat → Int × List UInt8) {k t : Nat} (ht : t < 2) : ∀ {i}, k < i → (fcl F i)[k * 2 + t]? = ([.int .i64 (F k).1, .string (bt (F k).2)] : List Value)[t]?
  | 0, h => by omega
  | i + 1, h => by
    show (fcl F i ++ [.int .i64 (F i).1, .string (bt (F i).2)])[k * 2 + t]? = _
    by_cases e : k = i
    · subst e
      rw [List.getElem?_append_right (by rw [fcl_len]; omega), fcl_len]
      congr 1
      omega
    · rw [List.getElem?_append_left (by rw [fcl_len]; omega)]
      exact fcl_at F ht (by omega)
theorem infoC : ∃ i1, Tryd.prog.info? 23 = some i1 ∧ i1.zero = some (.agg #[.int .i64 0, .string ⟨#[]⟩]) ∧ i1.size = 2 ∧ i1.bytes = 24 := ⟨Tryd.t23, by kernel_rfl, by kernel_rfl, by kernel_rfl, by kernel_rfl⟩
theorem own_blk2 {W : World} {B t s n : Nat} {v : Value} {l : List Value} (h : W.ownsRow B t s v n l) (hn : 0 < n) : ∃ g cap cur, v = .slice (some ⟨g, 0, none⟩) n cap ∧ v.ownBlock = some g ∧ B ≤ g ∧ g < W.heap.size ∧ n ≤ cap ∧ W.heap[g]? = some (.cells cur t (0, 0)) ∧ ∀ j, j < n * s → W.cell? ⟨g, j, none⟩ = l[j]? := by
  rcases h.2 with ⟨_, q⟩ | ⟨g, cap, cur, e, hb, hg, hc, _⟩
  · omega
  · refine ⟨g, cap, cur, e, by rw [e]; rfl, hb, (Array.getElem?_eq_some_iff.1 hg).1, hc, hg, fun j hj => ?_⟩
    rw [e] at h
    exact h.cellAt j hj
set_option maxHeartbeats 32000000 in
theorem im_dist {va : Value} {B n : Nat} {F : Nat → Int × List UInt8} (w : World) (ha : w.ownsRow B 23 2 va n (fcl F n)) (hn : n ≤ 8) :
    Calls Tryd.prog 24 #[va] w (TrA (dsn F n) w) := by
  obtain ⟨pa, ca, rfl⟩ := own_shape ha
  have hnI : (n : Int) ≤ 8 := by omega
  have HR : Hid (w.ownsRow B 23 2 (.slice pa n ca) n (fcl F n)) := ha
  obtain ⟨i1, hi1, hz0, hz1, hz2⟩ := infoT
  have HI1 : Hid (Tryd.prog.info? 9 = some i1) := hi1
  clear hi1 ha hn
  go_enter Tryd.func24, Tryd.ntmps24
  go_wp2_with fail
  go_loopw [3, 8] (fun s3 s8 wr => ∃ (i : Nat), s8 = .int .i64 (i : Int) ∧ i ≤ n ∧ Hid (wr.ownsRow w.heap.size 9 1 s3 (dsn F i).length (stv (dsn F i)) ∧ Kb 0 w wr)) (fun _ s8 _ => n - (intOf s8).toNat)
  case atStart => exact ⟨0, rfl, Nat.zero_le _, (⟨World.ownsRow_nil _ _ _ _, Kb.refl _ _⟩ : _ ∧ _)⟩
  case round =>
    obtain ⟨i, rfl, hin, HX⟩ := hrel
    obtain ⟨ho, hk⟩ := (show _ ∧ _ from HX)
    obtain ⟨pv, cv, rfl⟩ := own_shape ho
    clear HX
    rcases Nat.lt_or_ge i n with hi | hi
    case inr =>
      obtain rfl : i = n := by omega
      have hiI : ¬ (i : Int) < (i : Int) := by omega
      have HE : Hid (TrA (dsn F i) w (.returned (.slice pv (dsn F i).length cv)) wr) := (⟨_, rfl, ho, hk⟩ : TrA _ w _ wr)
      clear ho hk HR HI1 hz0 hz1 hz2
      go_wp2_with fail
      go_ret
      exact HE
    have hiI : (i : Int) < (n : Int) := by omega
    obtain ⟨ga, cap', cur, e0, e2, hB, hlt, hcap, hcur, hcell⟩ := own_blk2 (show w.ownsRow B 23 2 (.slice pa n ca) n (fcl F n) from HR) (by omega)
    injection e0 with e1 _ e3
    subst e1 e3
    obtain ⟨V, hV⟩ : ∃ V, V = F i := ⟨_, rfl⟩
    have d0 : wr.cell? ⟨ga, i * 2, none⟩ = some (.int .i64 V.1) := hk.cellA (Nat.zero_le _) ((hcell (i * 2) (by omega)).trans (by have := fcl_at F (t := 0) (by omega) hi; rw [hV]; exact this))
    have d1 : wr.cell? ⟨ga, i * 2 + 1, none⟩ = some (.string (bt V.2)) := hk.cellA (Nat.zero_le _) ((hcell (i * 2 + 1) (by omega)).trans (by have := fcl_at F (t := 1) (by omega) hi; rw [hV]; exact this))
    obtain ⟨D, hD⟩ : ∃ D, D = dsn F i := ⟨_, rfl⟩
    rw [← hD] at ho ⊢
    have HD : Hid (dsn F (i + 1) = dstp D V) := (by rw [hD, hV]; rfl : dsn F (i + 1) = dstp D V)
    have hDl : D.length ≤ 8 := by rw [hD]; have := dsn_len F i; omega
    obtain ⟨c, q⟩ := V
    dsimp only at d0 d1
    obtain ⟨x1, hx1⟩ : ∃ x1, x1 = wr.alloc (.cells #[.int .i64 c, .string (bt q)] 23) := ⟨_, rfl⟩
    obtain ⟨X, hX⟩ : ∃ X, X = wr.heap.size := ⟨_, rfl⟩
    have bX : x1.heap[X]? = some (.cells #[.int .i64 c, .string (bt q)] 23 (0, 0)) := by rw [hx1, hX]; exact alloc_new _ _ _
    have kX : Kb 0 wr x1 := by rw [hx1]; exact kb_alloc _ _ _
    have g0 : x1.cell? ⟨X, 0, none⟩ = some (.int .i64 c) := cell_of bX rfl
    have g1 : x1.cell? ⟨X, 1, none⟩ = some (.string (bt q)) := cell_of bX rfl
    have ho1 : x1.ownsRow w.heap.size 9 1 (.slice pv D.length cv) D.length (stv D) := own_kb9 ho kX
    have HC := im_cont (q := q) x1 ho1 hDl
    have HO1 : Hid (x1.ownsRow w.heap.size 9 1 (.slice pv D.length cv) D.length (stv D) ∧ Kb 0 w x1) := (⟨ho1, hk.trans kX⟩ : _ ∧ _)
    have hcaI : (n : Int) ≤ (ca : Int) := by omega
    have hDI : (D.length : Int) ≤ 8 := by omega
    have HX : Hid (x1 = wr.alloc (.cells #[.int .i64 c, .string (bt q)] 23) ∧ X = wr.heap.size) := (⟨hx1, hX⟩ : _ ∧ _)
    clear hx1 hX bX kX ho1 ho hk hV hD hi hB hlt hcap hcur hcell
    go_upto_region 5 with fail
    rw [← (show _ ∧ _ from HX).1, ← (show _ ∧ _ from HX).2]
    clear HX d0 d1
    by_cases hc : c = 0
    case neg =>
      have hcI : (c == 0) = false := by simpa using hc
      have eD : dsn F (i + 1) = D := (show dsn F (i + 1) = dstp D (c, q) from HD).trans (by unfold dstp; rw [if_neg hc])
      have HN2 : Hid (x1.ownsRow w.heap.size 9 1 (.slice pv D.length cv) (dsn F (i + 1)).length (stv (dsn F (i + 1))) ∧ Kb 0 w x1) := (⟨by rw [eD]; exact (show _ ∧ _ from HO1).1, (show _ ∧ _ from HO1).2⟩ : _ ∧ _)
      clear HO1 HD eD hc HR HC
      go_wp2_with fail
      go_roundw
      case rel => exact ⟨i + 1, by go_num, by omega, HN2⟩
      case measure => simp [intOf]; omega
    subst hc
    by_cases hq : q ∈ D
    · rw [decide_eq_true hq] at HC
      have eD : dsn F (i + 1) = D := (show dsn F (i + 1) = dstp D (0, q) from HD).trans (by unfold dstp; rw [if_pos rfl, if_pos hq])
      have HN2 : Hid (x1.ownsRow w.heap.size 9 1 (.slice pv D.length cv) (dsn F (i + 1)).length (stv (dsn F (i + 1))) ∧ Kb 0 w x1) := (⟨by rw [eD]; exact (show _ ∧ _ from HO1).1, (show _ ∧ _ from HO1).2⟩ : _ ∧ _)
      clear HO1 HD eD hq HR
      go_wp2_with fail
      refine HC.mono ?_
      rintro e x2 ⟨rfl, rfl⟩
      clear HC
      go_wp2_with fail
      go_roundw
      case rel => exact ⟨i + 1, by go_num, by omega, HN2⟩
      case measure => simp [intOf]; omega
    rw [decide_eq_false hq] at HC
    have eD : dsn F (i + 1) = D ++ [q] := (show dsn F (i + 1) = dstp D (0, q) from HD).trans (by unfold dstp; rw [if_pos rfl, if_neg hq])
    have HED : Hid (dsn F (i + 1) = D ++ [q]) := eD
    have HQC : Hid (∀ (k : Nat) (y : Value), ([.string (bt q)] : List Value)[k]? = some y → (x1.alloc (.cells #[.string (bt q)] 9)).cell? ((⟨x1.heap.size, 0, none⟩ : Addr).add k) = some y) := (qr_cells x1 #[.string (bt q)] 9 [.string (bt q)] rfl : ∀ (k : Nat) (y : Value), _)
    have h1c : Hid (∀ y ∈ ([.string (bt q)] : List Value), y.oneCell' = true) := (by
      intro y hy
      simp only [List.mem_cons, List.not_mem_nil, or_false] at hy
      rw [hy]
      rfl : ∀ y ∈ ([.string (bt q)] : List Value), y.oneCell' = true)
    clear eD hq HD HR
    obtain ⟨wo, rfl⟩ : ∃ wo, wo = x1 := ⟨_, rfl⟩
    go_wp2_with fail
    refine HC.mono ?_
    rintro e x2 ⟨rfl, hx2⟩
    rw [hx2]
    clear HC hx2
    go_wp2_with (refine wpList_append_own _ (by rfl) (.tmp 22) (.tmp 25) 27 (by rfl) w.heap.size 9 i1 (.string ⟨#[]⟩) 1 16 Tryd.underlying27 HI1 hz0 hz1 hz2 rfl (by decide) (.slice pv D.length cv) D.length (stv D) (by rfl) ((show wo.ownsRow w.heap.size 9 1 (.slice pv D.length cv) D.length (stv D) ∧ _ from HO1).1.alloc _) ⟨wo.heap.size, 0, none⟩ 1 1 [.string (bt q)] (by rfl) rfl (show ∀ (k : Nat) (y : Value), _ from HQC) (show ∀ y ∈ _, _ from h1c) (by unfold maxLen; omega) (by omega) (by rw [World.size_alloc]; have := (show _ ∧ Kb 0 w wo from HO1).2.size; omega) ?_; intro v' w8 hown1 hgrow1 _; obtain ⟨px', cx', rfl⟩ := own_shape hown1; have HN2 : Hid (w8.ownsRow w.heap.size 9 1 (.slice px' (D.length + 1) cx') (dsn F (i + 1)).length (stv (dsn F (i + 1))) ∧ Kb 0 w w8) := (⟨by rw [show dsn F (i + 1) = _ from HED, stv_app, List.length_append]; exact hown1, kb_app (show _ ∧ _ from HO1).2 (show _ ∧ _ from HO1).1 (Nat.le_refl _) hgrow1⟩ : _ ∧ _); clear HQC h1c hown1 hgrow1 HO1 HED)
    go_roundw
    case rel => exact ⟨i + 1, by go_num, by omega, HN2⟩
    case measure => simp [intOf]; omega
end Go.Proofs.YtgocahalfanpjaaDoor.Fo
