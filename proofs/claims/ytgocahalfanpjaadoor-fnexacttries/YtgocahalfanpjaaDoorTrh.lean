import Derived.Test.YtgocahalfanpjaaDoorTrg
import Derived.Test.YtgocahalfanpjaaDoorTre
import Derived.Test.YtgocahalfanpjaaDoorWtd
namespace Go.Proofs.YtgocahalfanpjaaDoor.Fo
open Go.ChangeShapes Go.WideShapes Go.ChangeAt Go.RowKit
set_option linter.unusedVariables false
set_option maxRecDepth 100000
theorem own_two (w : World) (B : Nat) (c : Int) (s : List UInt8) (hB : B ≤ w.heap.size) : (w.alloc (.cells #[.int .i64 c, .string (bt s)] 23)).ownsRow B 23 2 (.slice (some ⟨w.heap.size, 0, none⟩) 1 1) 1 [.int .i64 c, .string (bt s)] :=
  ⟨rfl, .inr ⟨w.heap.size, 1, #[.int .i64 c, .string (bt s)], rfl, hB, alloc_new _ _ _, Nat.le_refl _, by decide, rfl, rfl⟩⟩
theorem tra_from {L : List (List UInt8)} {w x : World} {e : Ending} {w' : World} (k : Kb 0 w x) (h : TrA L x e w') : TrA L w e w' := by
  obtain ⟨v, h1, h2, h3⟩ := h
  exact ⟨v, h1, own_base9 h2 k.size, k.trans h3⟩
set_option maxHeartbeats 32000000 in
theorem im_tries {va : Value} {n : Nat} {A : Nat → ByteArray} (f l : List UInt8) (hl : l.length ≤ 1048576) (hA : ∀ i, i < n → (A i).size ≤ 1048576) (hn : n ≤ 1048576) (w : World) (ha : RowV w va n (fun i => .string (A i))) :
    Calls Tryd.prog 11 #[va, .string (bt f), .string (bt l)] w (TrA (trs n A f l) w) := by
  have ha0 := ha
  obtain ⟨pa, ca, rfl, -⟩ := ha
  have hnI : (n : Int) ≤ 1048576 := by omega
  obtain ⟨L, hL⟩ : ∃ L, L = trs n A f l := ⟨_, rfl⟩
  rw [← hL]
  by_cases h8 : 8 < n
  · obtain rfl : L = [] := hL.trans (by unfold trs; rw [if_pos h8])
    have h8I : (8 : Int) < (n : Int) := by omega
    clear hL ha0 hA hn h8
    go_enter Tryd.func11, Tryd.ntmps11
    go_wp2_with fail
    go_ret
    exact tra_nil (Kb.refl _ _)
  have h8I : ¬ (8 : Int) < (n : Int) := by omega
  have HN := im_cut l hl w
  obtain ⟨p, hp⟩ : ∃ p, p = hdB l := ⟨_, rfl⟩
  rw [← hp] at HN
  have hnr : near l = ((p == [46]) || (p == [46, 46])) := by unfold near; rw [← hp]
  have ebl : (bt p).toList = p := bt_list p
  have HW := fun W => im_within f l W
  have HC := fun W => im_clean l W
  by_cases hnear : near l = true
  case pos =>
    have hLe : L = dsn (fun _ => wth f l) 1 := hL.trans (by unfold trs; rw [if_neg h8, if_pos hnear])
    obtain ⟨V, hV⟩ : ∃ V, V = wth f l := ⟨_, rfl⟩
    rw [← hV] at hLe HW
    obtain ⟨c, s⟩ := V
    unfold clV at HW
    dsimp only at HW
    replace HW : Hid (∀ W, Calls Tryd.prog 6 #[.string (bt f), .string (bt l)] W fun e w' => e = .returned (.agg #[.int .i64 c, .string (bt s)]) ∧ Kb 0 W w') := HW
    have HDI : Hid (∀ W : World, Calls Tryd.prog 24 #[.slice (some ⟨W.heap.size, 0, none⟩) 1 1] (W.alloc (.cells #[.int .i64 c, .string (bt s)] 23)) (TrA L (W.alloc (.cells #[.int .i64 c, .string (bt s)] 23)))) := (fun W => by
      rw [hLe]
      exact im_dist (F := fun _ => (c, s)) (B := W.heap.size) (n := 1) _ (own_two W W.heap.size c s (Nat.le_refl _)) (by omega) : ∀ W : World, _)
    have hor : p = [46] ∨ p = [46, 46] := by
      rw [hnr] at hnear
      simpa using hnear
    clear hL hLe hV HC hnr hnear ha0 hA hn hl hp
    go_enter Tryd.func11, Tryd.ntmps11
    go_wp2_with fail
    refine HN.mono ?_
    rintro e x ⟨t, b, rfl, kx⟩
    clear HN
    have HWx := (show ∀ W, _ from HW) x
    have HKX : Hid (Kb 0 w x) := kx
    clear HW kx
    rcases hor with rfl | rfl
    all_goals
      go_wp2_with fail
      refine HWx.mono ?_
      rintro e y ⟨rfl, ky⟩
      clear HWx
      have HDy := (show ∀ W, _ from HDI) y
      have HK : Hid (Kb 0 w (y.alloc (.cells #[.int .i64 c, .string (bt s)] 23))) := ((show Kb 0 w x from HKX).trans ky).trans (kb_alloc _ _ _)
      clear HDI HKX ky
      go_wp2_with fail
      refine HDy.mono ?_
      rintro e z hz
      have hz2 := tra_from (show Kb 0 w _ from HK) hz
      obtain ⟨v, rfl, ho, kz⟩ := hz2
      obtain ⟨pv, cv, rfl⟩ := own_shape ho
      have HF : Hid (TrA L w (.returned (.slice pv L.length cv)) z) := (⟨_, rfl, ho, kz⟩ : TrA L w _ z)
      clear HDy HK hz ho kz
      go_wp2_with fail
      go_ret
      exact HF
  have hLe : L = if (cln [] l).1 = 0 then dsn (rtd A (cln [] l).2) n else [] := hL.trans (by unfold trs; rw [if_neg h8, if_neg hnear])
  have hn1 : p ≠ [46] := fun e => hnear (by rw [hnr, e]; rfl)
  have hn2 : p ≠ [46, 46] := fun e => hnear (by rw [hnr, e]; rfl)
  have n1 : (p == [46]) = false := by simpa using hn1
  have n2 : (p == [46, 46]) = false := by simpa using hn2
  obtain ⟨V, hV⟩ : ∃ V, V = cln [] l := ⟨_, rfl⟩
  rw [← hV] at hLe HC
  have HLE : Hid (L = if V.1 = 0 then dsn (rtd A V.2) n else []) := hLe
  have HVL : Hid (V = cln [] l) := hV
  obtain ⟨c, m⟩ := V
  unfold clV at HC
  dsimp only at HC
  replace HC : Hid (∀ W, Calls Tryd.prog 18 #[.string (bt l)] W fun e w' => e = .returned (.agg #[.int .i64 c, .string (bt m)]) ∧ Kb 0 W w') := HC
  clear hL hLe hV HW hl hp hnr hnear hn1 hn2
  go_enter Tryd.func11, Tryd.ntmps11
  go_wp2_with fail
  refine HN.mono ?_
  rintro e x ⟨t, b, rfl, kx⟩
  clear HN
  have HCx := (show ∀ W, _ from HC) x
  have HKX : Hid (Kb 0 w x) := kx
  clear HC kx
  go_wp2_with fail
  refine HCx.mono ?_
  rintro e y ⟨rfl, ky⟩
  clear HCx
  obtain ⟨y1, hy1⟩ : ∃ y1, y1 = y.alloc (.cells #[.int .i64 c, .string (bt m)] 23) := ⟨_, rfl⟩
  obtain ⟨bY, zY, kY⟩ := one_box y _ _ y1 hy1
  obtain ⟨U, hU⟩ : ∃ U, U = y.heap.size := ⟨_, rfl⟩
  rw [← hU] at bY
  have c0 : y1.cell? ⟨U, 0, none⟩ = some (.int .i64 c) := cell_of bY rfl
  have c1 : y1.cell? ⟨U, 1, none⟩ = some (.string (bt m)) := cell_of bY rfl
  have HY : Hid (y1 = y.alloc (.cells #[.int .i64 c, .string (bt m)] 23) ∧ U = y.heap.size) := (⟨hy1, hU⟩ : _ ∧ _)
  have HK : Hid (Kb 0 w y1) := ((show Kb 0 w x from HKX).trans ky).trans kY
  by_cases hc : c = 0
  case neg =>
    have hcI : (c != 0) = true := by simpa using hc
    obtain rfl : L = [] := (show L = _ from HLE).trans (if_neg hc)
    clear HKX HLE bY zY kY ky hy1 hU hc ha0 hA hn HVL
    go_upto_region 7 with fail
    rw [← (show _ ∧ _ from HY).1, ← (show _ ∧ _ from HY).2]
    clear HY
    go_wp2_with fail
    go_ret
    exact tra_nil HK
  subst hc
  have hcl := (show (0, m) = cln [] l from HVL).symm
  have hm60 : m.length ≤ 60 := (cln_row hcl).1
  obtain ⟨F, hF⟩ : ∃ F, F = rtd A m := ⟨_, rfl⟩
  have HLF : Hid (L = dsn F n) := (by rw [hF]; exact (show L = _ from HLE).trans (if_pos rfl) : L = dsn F n)
  have HRT : Hid (∀ W i, i < n → ((A i).toList = [] → F i = (0, m)) ∧ ((A i).toList ≠ [] → ¬ 9223372036854775807 < (A i).size + (⟨#[47]⟩ : ByteArray).size ∧ ¬ 9223372036854775807 < (A i ++ ⟨#[47]⟩).size + (bt m).size ∧ Calls Tryd.prog 18 #[.string (A i ++ ⟨#[47]⟩ ++ bt m)] W fun e w' => e = .returned (clV (F i)) ∧ Kb 0 W w')) := (fun W i hi => by
    have hAi := hA i hi
    have hl2 : (A i).toList = (A i).data.toList := Lib.toList_data _
    constructor
    · intro h
      rw [hF]
      unfold rtd rjn
      rw [if_pos (by rw [← hl2]; exact h)]
      exact cln_idem hcl
    · intro h
      have e0 : A i = bt (A i).data.toList := (bt_eq _).symm
      have z3 : (A i ++ ⟨#[47]⟩).size = (A i).size + 1 := by
        rw [e0, show (⟨#[47]⟩ : ByteArray) = bt [47] from rfl, bt_app, bt_size, bt_size]; simp
      refine ⟨by show ¬ _ < (A i).size + 1; omega, by rw [z3, bt_size]; omega, ?_⟩
      have ec : A i ++ ⟨#[47]⟩ ++ bt m = bt (rjn (A i).data.toList m) := by
        unfold rjn
        rw [if_neg (by rw [← hl2]; exact h)]
        conv => lhs; rw [e0]
        rw [show (⟨#[47]⟩ : ByteArray) = bt [47] from rfl, bt_app, bt_app, List.append_assoc]
        rfl
      rw [ec, hF]
      exact im_clean _ W : ∀ W i, _)
  have HR : Hid (RowV w (.slice pa n ca) n (fun i => .string (A i))) := ha0
  have HB : Hid (y1.heap[U]? = some (.cells #[.int .i64 0, .string (bt m)] 23 (0, 0)) ∧ Kb 0 w y1) := (⟨bY, HK⟩ : _ ∧ _)
  have hn8 : (n : Int) ≤ 8 := by omega
  clear HKX HLE HVL bY zY kY ky hy1 hU ha0 hA hn hm60 hF HK h8 hcl
  go_upto_region 7 with fail
  rw [← (show _ ∧ _ from HY).1, ← (show _ ∧ _ from HY).2]
  clear HY
  go_wp2_with fail
  clear c0 c1
  obtain ⟨i1, hi1, hz0, hz1, hz2⟩ := infoC
  have HI1 : Hid (Tryd.prog.info? 23 = some i1) := hi1
  clear hi1
  go_loopw [11, 41] (fun s11 s41 wr => ∃ (i : Nat), s41 = .int .i64 (i : Int) ∧ i ≤ n ∧ Hid (wr.ownsRow y1.heap.size 23 2 s11 i (fcl F i) ∧ Kb 0 y1 wr)) (fun _ s41 _ => n - (intOf s41).toNat)
  case atStart => exact ⟨0, rfl, Nat.zero_le _, (⟨World.ownsRow_nil _ _ _ _, Kb.refl _ _⟩ : _ ∧ _)⟩
  case round =>
    obtain ⟨i, rfl, hin, HX⟩ := hrel
    obtain ⟨ho, hk⟩ := (show _ ∧ _ from HX)
    obtain ⟨pv, cv, rfl⟩ := own_shape ho
    clear HX
    rcases Nat.lt_or_ge i n with hi | hi
    case inr =>
      obtain rfl : i = n := by omega
      have hiI : ¬ (i : Int) < (i : Int) := by omega
      have HD := im_dist wr ho (by omega)
      have HE : Hid (Kb 0 w wr ∧ L = dsn F i) := (⟨(show _ ∧ Kb 0 w y1 from HB).2.trans hk, HLF⟩ : _ ∧ _)
      clear ho hk HB HRT HR HLF HI1 hz0 hz1 hz2 hi
      go_wp2_with fail
      refine HD.mono ?_
      rintro e z hz
      obtain ⟨v, rfl, ho, kz⟩ := tra_from (show Kb 0 w wr ∧ _ from HE).1 hz
      obtain ⟨pv, cv, rfl⟩ := own_shape ho
      have HF : Hid (TrA L w (.returned (.slice pv (dsn F i).length cv)) z) := (⟨_, rfl, by rw [(show _ ∧ L = _ from HE).2]; exact ho, kz⟩ : TrA L w _ z)
      clear HD HE hz ho kz
      go_wp2_with fail
      go_ret
      exact HF
    have hiI : (i : Int) < (n : Int) := by omega
    have hi8 : i ≤ 8 := by omega
    obtain ⟨_, _, e0, hl⟩ := (show RowV w (.slice pa n ca) n (fun i => .string (A i)) from HR)
    injection e0 with e1 e2 e3
    subst e1 e3
    obtain ⟨ad, rfl, hca, hra⟩ := hl (by omega)
    have kwr : Kb 0 w wr := (show _ ∧ Kb 0 w y1 from HB).2.trans hk
    have d0 : wr.cell? (ad.add i) = some (.string (A i)) := kwr.cellA (Nat.zero_le _) (hra i hi)
    obtain ⟨s, hs⟩ : ∃ s, s = A i := ⟨_, rfl⟩
    have HRi := (show ∀ W i, _ from HRT) wr i hi
    rw [← hs] at d0 HRi
    have bU := (hk.block U (Nat.zero_le _) (Array.getElem?_eq_some_iff.1 (show _ ∧ _ from HB).1).1).trans (show _ ∧ _ from HB).1
    have c0 : wr.cell? ⟨U, 0, none⟩ = some (.int .i64 0) := cell_of bU rfl
    have c1 : wr.cell? ⟨U, 1, none⟩ = some (.string (bt m)) := cell_of bU rfl
    obtain ⟨LF, hLF⟩ : ∃ LF, LF = fcl F i := ⟨_, rfl⟩
    obtain ⟨V, hV⟩ : ∃ V, V = F i := ⟨_, rfl⟩
    rw [← hLF] at ho
    rw [← hV] at HRi
    have HED : Hid (fcl F (i + 1) = LF ++ [.int .i64 V.1, .string (bt V.2)]) := (by rw [hLF, hV]; rfl : fcl F (i + 1) = _)
    have HOW : Hid (wr.ownsRow y1.heap.size 23 2 (.slice pv i cv) i LF ∧ Kb 0 y1 wr) := (⟨ho, hk⟩ : _ ∧ _)
    obtain ⟨c, q⟩ := V
    clear hl hra kwr hs bU ho hk hi hLF hV
    by_cases hs0 : s.toList = []
    · have hs1 : (s.toList == []) = true := by rw [hs0]; rfl
      obtain ⟨hc0, hqm⟩ := (Prod.mk.injEq _ _ _ _).mp (HRi.1 hs0)
      subst hc0
      have hqm2 := hqm.symm
      clear hqm
      subst hqm2
      dsimp only at HED
      have HQC : Hid (∀ (k : Nat) (y : Value), ([.int .i64 0, .string (bt m)] : List Value)[k]? = some y → (wr.alloc (.cells #[.int .i64 0, .string (bt m)] 23)).cell? ((⟨wr.heap.size, 0, none⟩ : Addr).add k) = some y) := (qr_cells wr #[.int .i64 0, .string (bt m)] 23 [.int .i64 0, .string (bt m)] rfl : ∀ (k : Nat) (y : Value), _)
      have h1c : Hid (∀ y ∈ ([.int .i64 0, .string (bt m)] : List Value), y.oneCell' = true) := (by
        intro y hy
        simp only [List.mem_cons, List.not_mem_nil, or_false] at hy
        rcases hy with rfl | rfl <;> rfl : ∀ y ∈ ([.int .i64 0, .string (bt m)] : List Value), y.oneCell' = true)
      clear HRi hs0 HB HRT HR HLF
      go_wp2_with (refine wpList_append_own _ (by rfl) (.tmp 47) (.tmp 49) 41 (by rfl) y1.heap.size 23 i1 (.agg #[.int .i64 0, .string ⟨#[]⟩]) 2 24 Tryd.underlying41 HI1 hz0 hz1 hz2 rfl (by decide) (.slice pv i cv) i LF (by rfl) ((show wr.ownsRow y1.heap.size 23 2 (.slice pv i cv) i LF ∧ _ from HOW).1.alloc _) ⟨wr.heap.size, 0, none⟩ 1 1 [.int .i64 0, .string (bt m)] (by rfl) rfl (show ∀ (k : Nat) (y : Value), _ from HQC) (show ∀ y ∈ _, _ from h1c) (by unfold maxLen; omega) (by omega) (by rw [World.size_alloc]; have := (show _ ∧ Kb 0 y1 wr from HOW).2.size; omega) ?_; intro v' w8 hown1 hgrow1 _; obtain ⟨px', cx', rfl⟩ := own_shape hown1; have HN2 : Hid (w8.ownsRow y1.heap.size 23 2 (.slice px' (i + 1) cx') (i + 1) (fcl F (i + 1)) ∧ Kb 0 y1 w8) := (⟨by rw [show fcl F (i + 1) = _ from HED]; exact hown1, kb_app (show _ ∧ _ from HOW).2 (show _ ∧ _ from HOW).1 (Nat.le_refl _) hgrow1⟩ : _ ∧ _); clear HQC h1c hown1 hgrow1 HOW HED)
      go_roundw
      case rel => exact ⟨i + 1, by go_num, by omega, HN2⟩
      case measure => simp [intOf]; omega
    · have hs1 : (s.toList == []) = false := by simpa using hs0
      obtain ⟨q1, q2, HCl⟩ := HRi.2 hs0
      unfold clV at HCl
      dsimp only at HCl HED
      clear HRi hs0 HB HRT HR HLF
      go_wp2_with fail
      refine HCl.mono ?_
      rintro e x ⟨rfl, kx⟩
      have HO2 : Hid (x.ownsRow y1.heap.size 23 2 (.slice pv i cv) i LF ∧ Kb 0 y1 x) := (⟨own_kb9 (show _ ∧ _ from HOW).1 kx, (show _ ∧ _ from HOW).2.trans kx⟩ : _ ∧ _)
      have HQC : Hid (∀ (k : Nat) (y : Value), ([.int .i64 c, .string (bt q)] : List Value)[k]? = some y → (x.alloc (.cells #[.int .i64 c, .string (bt q)] 23)).cell? ((⟨x.heap.size, 0, none⟩ : Addr).add k) = some y) := (qr_cells x #[.int .i64 c, .string (bt q)] 23 [.int .i64 c, .string (bt q)] rfl : ∀ (k : Nat) (y : Value), _)
      have h1c : Hid (∀ y ∈ ([.int .i64 c, .string (bt q)] : List Value), y.oneCell' = true) := (by
        intro y hy
        simp only [List.mem_cons, List.not_mem_nil, or_false] at hy
        rcases hy with rfl | rfl <;> rfl : ∀ y ∈ ([.int .i64 c, .string (bt q)] : List Value), y.oneCell' = true)
      clear HCl kx HOW
      go_wp2_with (refine wpList_append_own _ (by rfl) (.tmp 51) (.tmp 58) 41 (by rfl) y1.heap.size 23 i1 (.agg #[.int .i64 0, .string ⟨#[]⟩]) 2 24 Tryd.underlying41 HI1 hz0 hz1 hz2 rfl (by decide) (.slice pv i cv) i LF (by rfl) ((show x.ownsRow y1.heap.size 23 2 (.slice pv i cv) i LF ∧ _ from HO2).1.alloc _) ⟨x.heap.size, 0, none⟩ 1 1 [.int .i64 c, .string (bt q)] (by rfl) rfl (show ∀ (k : Nat) (y : Value), _ from HQC) (show ∀ y ∈ _, _ from h1c) (by unfold maxLen; omega) (by omega) (by rw [World.size_alloc]; have := (show _ ∧ Kb 0 y1 x from HO2).2.size; omega) ?_; intro v' w8 hown1 hgrow1 _; obtain ⟨px', cx', rfl⟩ := own_shape hown1; have HN2 : Hid (w8.ownsRow y1.heap.size 23 2 (.slice px' (i + 1) cx') (i + 1) (fcl F (i + 1)) ∧ Kb 0 y1 w8) := (⟨by rw [show fcl F (i + 1) = _ from HED]; exact hown1, kb_app (show _ ∧ _ from HO2).2 (show _ ∧ _ from HO2).1 (Nat.le_refl _) hgrow1⟩ : _ ∧ _); clear HQC h1c hown1 hgrow1 HO2 HED)
      go_roundw
      case rel => exact ⟨i + 1, by go_num, by omega, HN2⟩
      case measure => simp [intOf]; omega
end Go.Proofs.YtgocahalfanpjaaDoor.Fo
