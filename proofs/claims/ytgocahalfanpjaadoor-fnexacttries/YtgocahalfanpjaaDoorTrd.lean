import Derived.Test.YtgocahalfanpjaaDoorTrc
namespace Go.Proofs.YtgocahalfanpjaaDoor.Fo
open Go.ChangeShapes Go.WideShapes Go.ChangeAt Go.RowKit
set_option linter.unusedVariables false
set_option maxRecDepth 100000

/-- whether c is met among the first j -/
def mt (L : List (List UInt8)) (c : List UInt8) (j : Nat) : Bool := (L.take j).any (fun x => x == c)
theorem mt_succ {L : List (List UInt8)} {c : List UInt8} {j : Nat} (h : j < L.length) : mt L c (j + 1) = (mt L c j || (L[j] == c)) := by
  unfold mt
  rw [List.take_succ_eq_append_getElem h, List.any_append]
  simp
theorem mt_all {L : List (List UInt8)} {c : List UInt8} : mt L c L.length = decide (c ∈ L) := by
  unfold mt
  rw [List.take_length]
  rw [Bool.eq_iff_iff]
  simp
/-- the answer of Tries, as a row made since -/
def TrA (L : List (List UInt8)) (w : World) (e : Ending) (w' : World) : Prop := ∃ v, e = .returned v ∧ w'.ownsRow w.heap.size 9 1 v L.length (stv L) ∧ Kb 0 w w'
theorem tra_nil {w w' : World} (k : Kb 0 w w') : TrA [] w (.returned (.slice none 0 0)) w' := ⟨_, rfl, World.ownsRow_nil _ _ _ _, k⟩
theorem own_one (w : World) (B : Nat) (s : List UInt8) (hB : B ≤ w.heap.size) : (w.alloc (.cells #[.string (bt s)] 9)).ownsRow B 9 1 (.slice (some ⟨w.heap.size, 0, none⟩) 1 1) 1 [.string (bt s)] :=
  ⟨rfl, .inr ⟨w.heap.size, 1, #[.string (bt s)], rfl, hB, alloc_new _ _ _, Nat.le_refl _, by decide, rfl, rfl⟩⟩
theorem own_kb9 {W W' : World} {B t s n : Nat} {v : Value} {l : List Value} (h : W.ownsRow B t s v n l) (k : Kb 0 W W') : W'.ownsRow B t s v n l := own_keep8 h (fun g e => k.block g (Nat.zero_le _) (by have := h.lt g e; omega))
theorem own_base9 {W : World} {B B' t s n : Nat} {v : Value} {l : List Value} (h : W.ownsRow B t s v n l) (hB : B' ≤ B) : W.ownsRow B' t s v n l := by
  refine ⟨h.1, ?_⟩
  rcases h.2 with q | ⟨g, cap, cur, h1, h2, h3⟩
  · exact .inl q
  · exact .inr ⟨g, cap, cur, h1, Nat.le_trans hB h2, h3⟩
set_option maxHeartbeats 32000000 in
theorem sp_tries {va : Value} {n : Nat} {A : Nat → ByteArray} (f l : List UInt8) (hl : l.length ≤ 1048576) (hA : ∀ i, i < n → (A i).size ≤ 1048576) (hn : n ≤ 1048576) (w : World) (ha : RowV w va n (fun i => .string (A i))) :
    Calls Tryd.prog 9 #[va, .string (bt f), .string (bt l)] w (TrA (trs n A f l) w) := by
  have ha0 := ha
  obtain ⟨pa, ca, rfl, -⟩ := ha
  have hnI : (n : Int) ≤ 1048576 := by omega
  obtain ⟨L, hL⟩ : ∃ L, L = trs n A f l := ⟨_, rfl⟩
  rw [← hL]
  by_cases h8 : 8 < n
  · obtain rfl : L = [] := hL.trans (by unfold trs; rw [if_pos h8])
    have h8I : (8 : Int) < (n : Int) := by omega
    clear hL ha0 hA hn h8
    go_enter Tryd.func9, Tryd.ntmps9
    go_wp2_with fail
    go_ret
    exact tra_nil (Kb.refl _ _)
  have h8I : ¬ (8 : Int) < (n : Int) := by omega
  have HN := sp_near l hl w
  obtain ⟨bn, hbn⟩ : ∃ bn, bn = near l := ⟨_, rfl⟩
  rw [← hbn] at HN
  have HW := fun W => sp_within f l W
  have HC := fun W => sp_clean l W
  cases bn
  case true =>
    have hLe : L = dsn (fun _ => wth f l) 1 := hL.trans (by unfold trs; rw [if_neg h8, if_pos hbn.symm])
    rw [dsn_one] at hLe
    obtain ⟨V, hV⟩ : ∃ V, V = wth f l := ⟨_, rfl⟩
    rw [← hV] at hLe HW
    replace HW : Hid (∀ W, Calls Tryd.prog 5 #[.string (bt f), .string (bt l)] W fun e w' => e = .returned (clV V) ∧ Kb 0 W w') := HW
    have HLE : Hid (L = if V.1 = 0 then [V.2] else []) := hLe
    clear hL hLe hV HC hbn ha0 hA hn hl
    go_enter Tryd.func9, Tryd.ntmps9
    go_wp2_with fail
    refine HN.mono ?_
    rintro e x ⟨rfl, kx⟩
    clear HN
    have HWx := (show ∀ W, _ from HW) x
    have HKX : Hid (Kb 0 w x) := kx
    clear HW kx
    go_wp2_with fail
    refine HWx.mono ?_
    rintro e y ⟨rfl, ky⟩
    clear HWx
    obtain ⟨c, s⟩ := V
    unfold clV
    dsimp only
    obtain ⟨y1, hy1⟩ : ∃ y1, y1 = y.alloc (.cells #[.int .i64 c, .string (bt s)] 23) := ⟨_, rfl⟩
    obtain ⟨bY, zY, kY⟩ := one_box y _ _ y1 hy1
    obtain ⟨U, hU⟩ : ∃ U, U = y.heap.size := ⟨_, rfl⟩
    rw [← hU] at bY
    have c0 : y1.cell? ⟨U, 0, none⟩ = some (.int .i64 c) := cell_of bY rfl
    have c1 : y1.cell? ⟨U, 1, none⟩ = some (.string (bt s)) := cell_of bY rfl
    have HY : Hid (y1 = y.alloc (.cells #[.int .i64 c, .string (bt s)] 23) ∧ U = y.heap.size) := (⟨hy1, hU⟩ : _ ∧ _)
    have HK : Hid (Kb 0 w y1) := ((show Kb 0 w x from HKX).trans ky).trans kY
    by_cases hc : c = 0
    case neg =>
      have hcI : (c != 0) = true := by simpa using hc
      obtain rfl : L = [] := (show L = _ from HLE).trans (if_neg hc)
      clear HKX HLE bY zY kY ky hy1 hU hc
      go_upto_region 5 with fail
      rw [← (show _ ∧ _ from HY).1, ← (show _ ∧ _ from HY).2]
      clear HY
      go_wp2_with fail
      go_ret
      exact tra_nil HK
    subst hc
    obtain rfl : L = [s] := (show L = _ from HLE).trans (if_pos rfl)
    have HF : Hid (TrA [s] w (.returned (.slice (some ⟨y1.heap.size, 0, none⟩) 1 1)) (y1.alloc (.cells #[.string (bt s)] 9))) := (⟨_, rfl, own_one y1 w.heap.size s (show Kb 0 w y1 from HK).size, (show Kb 0 w y1 from HK).trans (kb_alloc _ _ _)⟩ : TrA [s] w _ _)
    clear HKX HLE bY zY kY ky hy1 hU HK
    go_upto_region 5 with fail
    rw [← (show _ ∧ _ from HY).1, ← (show _ ∧ _ from HY).2]
    clear HY
    go_wp2_with fail
    go_ret
    exact HF
  have hLe : L = if (cln [] l).1 = 0 then dsn (rtd A (cln [] l).2) n else [] := hL.trans (by unfold trs; rw [if_neg h8, if_neg (by rw [← hbn]; decide)])
  obtain ⟨V, hV⟩ : ∃ V, V = cln [] l := ⟨_, rfl⟩
  rw [← hV] at hLe HC
  have HLE : Hid (L = if V.1 = 0 then dsn (rtd A V.2) n else []) := hLe
  replace HC : Hid (∀ W, Calls Tryd.prog 15 #[.string (bt l)] W fun e w' => e = .returned (clV V) ∧ Kb 0 W w') := HC
  have HVL : Hid (V = cln [] l) := hV
  clear hL hLe hV HW hbn hl
  go_enter Tryd.func9, Tryd.ntmps9
  go_wp2_with fail
  refine HN.mono ?_
  rintro e x ⟨rfl, kx⟩
  clear HN
  have HCx := (show ∀ W, _ from HC) x
  have HKX : Hid (Kb 0 w x) := kx
  clear HC kx
  go_wp2_with fail
  refine HCx.mono ?_
  rintro e y ⟨rfl, ky⟩
  clear HCx
  obtain ⟨c, m⟩ := V
  unfold clV
  dsimp only
  obtain ⟨y1, hy1⟩ : ∃ y1, y1 = y.alloc (.cells #[.int .i64 c, .string (bt m)] 23) := ⟨_, rfl⟩
  obtain ⟨bY, zY, kY⟩ := one_box y _ _ y1 hy1
  obtain ⟨U, hU⟩ : ∃ U, U = y.heap.size := ⟨_, rfl⟩
  rw [← hU] at bY
  have c0 : y1.cell? ⟨U, 0, none⟩ = some (.int .i64 c) := cell_of bY rfl
  have c1 : y1.cell? ⟨U, 1, none⟩ = some (.string (bt m)) := cell_of bY rfl
  have HY : Hid (y1 = y.alloc (.cells #[.int .i64 c, .string (bt m)] 23) ∧ U = y.heap.size) := (⟨hy1, hU⟩ : _ ∧ _)
  have HK : Hid (Kb 0 w y1) := ((show Kb 0 w x from HKX).trans ky).trans kY
  by_cases hc : c = 0
  case neg =>
    have hcI : (c != 0) = true := by simpa using hc
    obtain rfl : L = [] := (show L = _ from HLE).trans (if_neg hc)
    clear HKX HLE bY zY kY ky hy1 hU hc ha0 hA hn HVL
    go_upto_region 9 with fail
    rw [← (show _ ∧ _ from HY).1, ← (show _ ∧ _ from HY).2]
    clear HY
    go_wp2_with fail
    go_ret
    exact tra_nil HK
  subst hc
  have hm60 : m.length ≤ 60 := (cln_row (show (0, m) = cln [] l from HVL).symm).1
  obtain ⟨F, hF⟩ : ∃ F, F = rtd A m := ⟨_, rfl⟩
  have HLF : Hid (L = dsn F n) := (by rw [hF]; exact (show L = _ from HLE).trans (if_pos rfl) : L = dsn F n)
  have HRT : Hid (∀ W i, i < n → Calls Tryd.prog 22 #[.string (A i), .string (bt m)] W fun e w' => e = .returned (clV (F i)) ∧ Kb 0 W w') := (fun W i hi => by
    have := sp_rooted (A i).data.toList m (by rw [← Lib.size_eq]; exact hA i hi) (by omega) W
    rw [bt_eq] at this
    rw [hF]
    exact this : ∀ W i, _)
  have HR : Hid (RowV w (.slice pa n ca) n (fun i => .string (A i))) := ha0
  have HB : Hid (y1.heap[U]? = some (.cells #[.int .i64 0, .string (bt m)] 23 (0, 0)) ∧ Kb 0 w y1) := (⟨bY, HK⟩ : _ ∧ _)
  have hn8 : (n : Int) ≤ 8 := by omega
  clear HKX HLE HVL bY zY kY ky hy1 hU ha0 hA hn hm60 hF HK h8
  go_upto_region 9 with fail
  rw [← (show _ ∧ _ from HY).1, ← (show _ ∧ _ from HY).2]
  clear HY
  go_wp2_with fail
  clear c0 c1
  obtain ⟨i1, hi1, hz0, hz1, hz2⟩ := infoT
  have HI1 : Hid (Tryd.prog.info? 9 = some i1) := hi1
  clear hi1
  go_loopw [9, 37] (fun s9 s37 wr => ∃ (i : Nat), s37 = .int .i64 (i : Int) ∧ i ≤ n ∧ Hid (wr.ownsRow y1.heap.size 9 1 s9 (dsn F i).length (stv (dsn F i)) ∧ Kb 0 y1 wr)) (fun _ s37 _ => n - (intOf s37).toNat)
  case atStart => exact ⟨0, rfl, Nat.zero_le _, (⟨World.ownsRow_nil _ _ _ _, Kb.refl _ _⟩ : _ ∧ _)⟩
  case round =>
    obtain ⟨i, rfl, hin, HX⟩ := hrel
    obtain ⟨ho, hk⟩ := (show _ ∧ _ from HX)
    obtain ⟨pv, cv, rfl⟩ := own_shape ho
    clear HX
    rcases Nat.lt_or_ge i n with hi | hi
    case inr =>
      obtain rfl : i = n := by omega
      have hiI : ¬ (i : Int) < (i : Int) := by omega
      have HE : Hid (TrA L w (.returned (.slice pv (dsn F i).length cv)) wr) := (⟨_, rfl, by rw [show L = _ from HLF]; exact own_base9 ho (show _ ∧ Kb 0 w y1 from HB).2.size, (show _ ∧ Kb 0 w y1 from HB).2.trans hk⟩ : TrA L w _ wr)
      clear ho hk HB HRT HR HLF HI1 hz0 hz1 hz2
      go_wp2_with fail
      go_ret
      exact HE
    have hiI : (i : Int) < (n : Int) := by omega
    obtain ⟨_, _, e0, hl⟩ := (show RowV w (.slice pa n ca) n (fun i => .string (A i)) from HR)
    injection e0 with e1 e2 e3
    subst e1 e3
    obtain ⟨ad, rfl, hca, hra⟩ := hl (by omega)
    have kwr : Kb 0 w wr := (show _ ∧ Kb 0 w y1 from HB).2.trans hk
    have d0 : wr.cell? (ad.add i) = some (.string (A i)) := kwr.cellA (Nat.zero_le _) (hra i hi)
    obtain ⟨s, hs⟩ : ∃ s, s = A i := ⟨_, rfl⟩
    have HRi := (show ∀ W i, _ from HRT) wr i hi
    rw [← hs] at d0 HRi
    have bU := (hk.block U (Nat.zero_le _) (Array.getElem?_eq_some_iff.1 (show _ ∧ _ from HB).1).1).trans (show _ ∧ _ from HB).1
    have c1 : wr.cell? ⟨U, 1, none⟩ = some (.string (bt m)) := cell_of bU rfl
    obtain ⟨D, hD⟩ : ∃ D, D = dsn F i := ⟨_, rfl⟩
    obtain ⟨V, hV⟩ : ∃ V, V = F i := ⟨_, rfl⟩
    rw [← hD] at ho ⊢
    rw [← hV] at HRi
    have HD : Hid (dsn F (i + 1) = dstp D V) := (by rw [hD, hV]; rfl : dsn F (i + 1) = dstp D V)
    have hDl : D.length ≤ 8 := by rw [hD]; have := dsn_len F i; omega
    have HOW : Hid (wr.ownsRow y1.heap.size 9 1 (.slice pv D.length cv) D.length (stv D) ∧ Kb 0 y1 wr ∧ Kb 0 w wr) := (⟨ho, hk, kwr⟩ : _ ∧ _)
    clear hl hra kwr hs bU ho hk hi hD hV
    obtain ⟨c, q⟩ := V
    unfold clV at HRi
    dsimp only at HRi
    go_upto_region 16 with (go_at_call 22; refine HRi.mono ?_; rintro e x ⟨rfl, kx⟩)
    clear HRi d0 c1
    obtain ⟨X, hX⟩ : ∃ X, X = x.heap.size := ⟨_, rfl⟩
    rw [← hX]
    generalize hx1 : World.alloc x _ = x1
    have bX : x1.heap[X]? = some (.cells #[.int .i64 c, .string (bt q)] 23 (0, 0)) := by rw [← hx1, hX]; exact alloc_new _ _ _
    have kX : Kb 0 x x1 := by rw [← hx1]; exact kb_alloc _ _ _
    have g0 : x1.cell? ⟨X, 0, none⟩ = some (.int .i64 c) := cell_of bX rfl
    have g1 : x1.cell? ⟨X, 1, none⟩ = some (.string (bt q)) := cell_of bX rfl
    have hkx := kx.trans kX
    obtain ⟨ho, hk, kwr⟩ := (show _ ∧ _ ∧ _ from HOW)
    have ho1 : x1.ownsRow y1.heap.size 9 1 (.slice pv D.length cv) D.length (stv D) := own_kb9 ho hkx
    have HO1 : Hid (x1.ownsRow y1.heap.size 9 1 (.slice pv D.length cv) D.length (stv D) ∧ Kb 0 y1 x1 ∧ Kb 0 w x1) := (⟨ho1, hk.trans hkx, kwr.trans hkx⟩ : _ ∧ _)
    clear hx1 bX kX kx hkx ho hk kwr ho1 HOW hX
    have hDI : (D.length : Int) ≤ 8 := by omega
    by_cases hc : c = 0
    case neg =>
      have hcI : (c != 0) = true := by simpa using hc
      have eD : dsn F (i + 1) = D := (show dsn F (i + 1) = dstp D (c, q) from HD).trans (by unfold dstp; rw [if_neg hc])
      have HN2 : Hid (x1.ownsRow y1.heap.size 9 1 (.slice pv D.length cv) (dsn F (i + 1)).length (stv (dsn F (i + 1))) ∧ Kb 0 y1 x1) := (⟨by rw [eD]; exact (show _ ∧ _ ∧ _ from HO1).1, (show _ ∧ _ ∧ _ from HO1).2.1⟩ : _ ∧ _)
      clear HO1 HD eD hc HR HB HRT HLF
      go_wp2_with fail
      go_roundw
      case rel => exact ⟨i + 1, by go_num, by omega, HN2⟩
      case measure => simp [intOf]; omega
    subst hc
    obtain ⟨wo, hwo⟩ : ∃ wo, wo = wr := ⟨_, rfl⟩
    clear hwo
    go_wp2_with fail
    have ebq : (bt q).toList = q := bt_list q
    go_loopw [13, 50] (fun s13 s50 wr => ∃ (j : Nat), s13 = .bool (mt D q j) ∧ s50 = .int .i64 (j : Int) ∧ j ≤ D.length ∧ x1 = wr) (fun _ s50 _ => D.length - (intOf s50).toNat)
    case atStart => exact ⟨0, rfl, rfl, Nat.zero_le _, rfl⟩
    case round =>
      obtain ⟨j, rfl, rfl, hjn, rfl⟩ := hrel
      rcases Nat.lt_or_ge j D.length with hj | hj
      case inl =>
        have hjI : (j : Int) < (D.length : Int) := by omega
        obtain ⟨g, cg, e0, hcg⟩ := own_pos9 (show _ ∧ _ ∧ _ from HO1).1 (by omega)
        injection e0 with e1 _ e3
        subst e1 e3
        obtain ⟨p, hp⟩ : ∃ p, p = D[j] := ⟨_, rfl⟩
        have dj : x1.cell? ⟨g, j, none⟩ = some (.string (bt p)) := by
          rw [(show _ ∧ _ ∧ _ from HO1).1.cellAt j (by rw [Nat.mul_one]; exact hj), stv_at hj, hp]
        have hcgI : (D.length : Int) ≤ (cv : Int) := by omega
        have hm := mt_succ (c := q) hj
        rw [← hp] at hm
        have ebp : (bt p).toList = p := bt_list p
        obtain ⟨b, hb⟩ : ∃ b, b = mt D q j := ⟨_, rfl⟩
        rw [← hb] at hm ⊢
        have HM : Hid (mt D q (j + 1) = (b || (p == q))) := hm
        clear hm hb hp HO1 HD HR HB HRT HLF hj hcg
        cases b
        case true =>
          go_wp2_with fail
          go_roundw
          case rel => exact ⟨j + 1, by rw [show mt D q (j + 1) = _ from HM]; rfl, by go_num, by omega, by first | rfl | trivial⟩
          case measure => simp [intOf]; omega
        case false =>
          obtain ⟨r, hr⟩ : ∃ r, r = (p == q) := ⟨_, rfl⟩
          have hr2 : (p == q) = r := hr.symm
          have HM2 : Hid (mt D q (j + 1) = r) := (show mt D q (j + 1) = _ from HM).trans (by rw [hr2]; rfl)
          clear hr HM
          go_wp2_with fail
          go_roundw
          case rel => exact ⟨j + 1, by rw [show mt D q (j + 1) = _ from HM2], by go_num, by omega, by first | rfl | trivial⟩
          case measure => simp [intOf]; omega
      obtain rfl : j = D.length := by omega
      have hjI : ¬ ((D.length : Nat) : Int) < (D.length : Int) := by omega
      rw [mt_all]
      by_cases hq : q ∈ D
      · rw [decide_eq_true hq]
        have eD : dsn F (i + 1) = D := (show dsn F (i + 1) = dstp D (0, q) from HD).trans (by unfold dstp; rw [if_pos rfl, if_pos hq])
        have HN2 : Hid (x1.ownsRow y1.heap.size 9 1 (.slice pv D.length cv) (dsn F (i + 1)).length (stv (dsn F (i + 1))) ∧ Kb 0 y1 x1) := (⟨by rw [eD]; exact (show _ ∧ _ ∧ _ from HO1).1, (show _ ∧ _ ∧ _ from HO1).2.1⟩ : _ ∧ _)
        clear HO1 HD eD hq HR HB HRT HLF
        go_wp2_with fail
        go_roundw
        case rel => exact ⟨i + 1, by go_num, by omega, HN2⟩
        case measure => simp [intOf]; omega
      rw [decide_eq_false hq]
      have eD : dsn F (i + 1) = D ++ [q] := (show dsn F (i + 1) = dstp D (0, q) from HD).trans (by unfold dstp; rw [if_pos rfl, if_neg hq])
      have HED : Hid (dsn F (i + 1) = D ++ [q]) := eD
      have HQC : Hid (∀ (k : Nat) (y : Value), ([.string (bt q)] : List Value)[k]? = some y → (x1.alloc (.cells #[.string (bt q)] 9)).cell? ((⟨x1.heap.size, 0, none⟩ : Addr).add k) = some y) := (qr_cells x1 #[.string (bt q)] 9 [.string (bt q)] rfl : ∀ (k : Nat) (y : Value), _)
      have h1c : Hid (∀ y ∈ ([.string (bt q)] : List Value), y.oneCell' = true) := (by
        intro y hy
        simp only [List.mem_cons, List.not_mem_nil, or_false] at hy
        rw [hy]
        rfl : ∀ y ∈ ([.string (bt q)] : List Value), y.oneCell' = true)
      clear eD hq HD HR HRT HLF hjn hj
      go_wp2_with (refine wpList_append_own _ (by rfl) (.tmp 64) (.tmp 67) 27 (by rfl) y1.heap.size 9 i1 (.string ⟨#[]⟩) 1 16 Tryd.underlying27 HI1 hz0 hz1 hz2 rfl (by decide) (.slice pv D.length cv) D.length (stv D) (by rfl) ((show x1.ownsRow y1.heap.size 9 1 (.slice pv D.length cv) D.length (stv D) ∧ _ from HO1).1.alloc _) ⟨x1.heap.size, 0, none⟩ 1 1 [.string (bt q)] (by rfl) rfl (show ∀ (k : Nat) (y : Value), _ from HQC) (show ∀ y ∈ _, _ from h1c) (by unfold maxLen; omega) (by omega) (by rw [World.size_alloc]; have := (show _ ∧ Kb 0 y1 x1 ∧ _ from HO1).2.1.size; omega) ?_; intro v' w8 hown1 hgrow1 _; obtain ⟨px', cx', rfl⟩ := own_shape hown1; have HN2 : Hid (w8.ownsRow y1.heap.size 9 1 (.slice px' (D.length + 1) cx') (dsn F (i + 1)).length (stv (dsn F (i + 1))) ∧ Kb 0 y1 w8) := (⟨by rw [show dsn F (i + 1) = _ from HED, stv_app, List.length_append]; exact hown1, kb_app (show _ ∧ _ ∧ _ from HO1).2.1 (show _ ∧ _ ∧ _ from HO1).1 (Nat.le_refl _) hgrow1⟩ : _ ∧ _); clear HQC h1c hown1 hgrow1 HO1 HED)
      go_roundw
      case rel => exact ⟨i + 1, by go_num, by omega, HN2⟩
      case measure => simp [intOf]; omega
end Go.Proofs.YtgocahalfanpjaaDoor.Fo
