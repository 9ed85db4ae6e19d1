import Derived.Test.YtgocahalfanpjaaDoorCnc
namespace Go.Proofs.YtgocahalfanpjaaDoor.Fo
open Go.ChangeShapes Go.WideShapes Go.ChangeAt Go.RowKit
set_option linter.unusedVariables false
set_option maxRecDepth 100000

def Eqb (W W2 : World) (g : Nat) : Prop := W.heap[g]? = W2.heap[g]?
/-- a row that holds these parts -/
def RowT (W : World) (v : Value) (R : List (List UInt8)) : Prop := ∃ p c, v = .slice p R.length c ∧ (0 < R.length → ∃ a : Addr, p = some a ∧ R.length ≤ c ∧ ∀ j s, (stv R)[j]? = some s → W.cell? (a.add j) = some s)
theorem RowT.keep {W W' : World} {v : Value} {R : List (List UInt8)} (h : RowT W v R) (k : Kb 0 W W') : RowT W' v R := by
  obtain ⟨p, c, e, h2⟩ := h
  refine ⟨p, c, e, fun hn => ?_⟩
  obtain ⟨a, q1, q2, q3⟩ := h2 hn
  exact ⟨a, q1, q2, fun j s hs => k.cell (q3 j s hs)⟩
theorem rowt_own {W : World} {B : Nat} {v : Value} {R : List (List UInt8)} (h : W.ownsRow B 9 1 v R.length (stv R)) : RowT W v R := by
  rcases h.2 with ⟨e, e2⟩ | ⟨g, cap, cur, e, h2, h3, h4, h5, h6, h7⟩
  · exact ⟨none, 0, by rw [e, e2], fun q => by omega⟩
  · refine ⟨_, _, e, fun _ => ⟨_, rfl, h4, fun j s hs => ?_⟩⟩
    rw [addr0]
    refine cell_of h3 ?_
    have hj := (List.getElem?_eq_some_iff.1 hs).1
    rw [stv_len] at hj
    have e7 : (cur.toList.take (R.length * 1))[j]? = some s := by rw [h7]; exact hs
    rw [Nat.mul_one, List.getElem?_take_of_lt hj] at e7
    simpa using e7
theorem bt_inj {p m : List UInt8} (h : bt p = bt m) : p = m := by rw [← bt_list p, h, bt_list]
theorem bt_neq {p m : List UInt8} (h : p ≠ m) : (bt p == bt m) = false := by
  show (p.toArray == m.toArray) = false
  simpa using h
theorem spB_part (l : List UInt8) : ∀ p ∈ spB l, p.length ≤ l.length := by
  induction l with
  | nil => intro p hp; simp [spB] at hp; simp [hp]
  | cons b r ih =>
    intro p hp
    unfold spB at hp
    split at hp
    · rcases List.mem_cons.1 hp with rfl | h
      · simp
      · have := ih p h; simp; omega
    · split at hp
      · simp at hp; simp [hp]
      · rename_i q qs e
        rw [e] at ih
        rcases List.mem_cons.1 hp with rfl | h
        · have := ih q (List.mem_cons_self ..); simp; omega
        · have := ih p (List.mem_cons_of_mem _ h); simp; omega
theorem all_take {p : List UInt8} {j : Nat} (hj : j < p.length) (h : (p.take j).all okb = true) (hb : okb p[j] = true) : (p.take (j + 1)).all okb = true := by
  rw [List.take_succ_eq_append_getElem hj, List.all_append, h]
  simp [hb]
theorem okp_bad {p : List UInt8} {j : Nat} (hj : j < p.length) (hb : okb p[j] = false) : ¬ okp p = true := by
  intro h
  unfold okp at h
  rw [Bool.and_eq_true] at h
  have := List.all_eq_true.1 h.2 _ (List.getElem_mem hj)
  rw [hb] at this
  cases this
theorem okp_all {p : List UInt8} (h0 : p ≠ []) (h : p.all okb = true) : okp p = true := by
  unfold okp
  rw [h]
  cases p with
  | nil => exact absurd rfl h0
  | cons a r => rfl
theorem stv_at {R : List (List UInt8)} {i : Nat} (h : i < R.length) : (stv R)[i]? = some (.string (bt R[i])) := by unfold stv; rw [List.getElem?_map, List.getElem?_eq_getElem h]; rfl
theorem stv_drop (R : List (List UInt8)) : (stv R).dropLast = stv R.dropLast := by unfold stv; rw [List.map_dropLast]
theorem own_drop {W : World} {B g cap : Nat} {R : List (List UInt8)} {n : Nat} (hR : R.length = n + 1) (h : W.ownsRow B 9 1 (.slice (some ⟨g, 0, none⟩) R.length cap) R.length (stv R)) : W.ownsRow B 9 1 (.slice (some ⟨g, 0, none⟩) n cap) R.dropLast.length (stv R.dropLast) := by
  have e : R.dropLast.length = n := by rw [List.length_dropLast, hR]; rfl
  rw [e]
  refine ⟨by rw [stv_len, e, Nat.mul_one], ?_⟩
  rcases h.2 with ⟨e1, _⟩ | ⟨g', cap', cur, e1, h2, h3, h4, h5, h6, h7⟩
  · cases e1
  · injection e1 with e2 _ e4
    injection e2 with e2
    injection e2 with e2 _ _
    subst e2 e4
    refine .inr ⟨g, cap, cur, rfl, h2, h3, by omega, h5, h6, ?_⟩
    rw [← stv_drop, ← h7, List.dropLast_eq_take, List.take_take]
    congr 1
    rw [List.length_take, hR]
    have : cur.toList.length = cap * 1 := by simpa using h6
    omega
/-- what stands between two parts of a name -/
def WK8 (w w2 wr : World) (R P : List (List UInt8)) (i g2 : Nat) (row : List (List UInt8)) (p : List UInt8) (v : Value) : Prop :=
  wst row (p :: List.drop (i + 1) P) = wst R P ∧ row.length ≤ R.length + i ∧ wr.ownsRow w.heap.size 9 1 v row.length (stv row) ∧ (∀ g, v.ownBlock = some g → g ≠ g2) ∧ Eqb wr w2 g2 ∧ Kb 0 w wr ∧ w2.heap.size ≤ wr.heap.size ∧ p ≠ [46] ∧ p ≠ [46, 46] ∧ p ≠ []
theorem walk_own {w w2 wr : World} {R P : List (List UInt8)} {i g2 : Nat} {row : List (List UInt8)} {p : List UInt8} {v : Value} (h : Hid (WK8 w w2 wr R P i g2 row p v)) : wr.ownsRow w.heap.size 9 1 v row.length (stv row) ∧ Kb 0 w wr := ⟨(show WK8 _ _ _ _ _ _ _ _ _ _ from h).2.2.1, (show WK8 _ _ _ _ _ _ _ _ _ _ from h).2.2.2.2.2.1⟩
theorem walk_ne {w w2 wr : World} {R P : List (List UInt8)} {i g2 : Nat} {row : List (List UInt8)} {p : List UInt8} {v : Value} (h : Hid (WK8 w w2 wr R P i g2 row p v)) : p ≠ [] := (show WK8 _ _ _ _ _ _ _ _ _ _ from h).2.2.2.2.2.2.2.2.2
theorem walk_app {w w2 wr w8 : World} {R P : List (List UInt8)} {i g2 g cap : Nat} {row : List (List UInt8)} {p : List UInt8} {v : Value} {ob : Obj} (h : Hid (WK8 w w2 wr R P i g2 row p v)) (hok : Hid (okp p = true)) (hg2 : Hid (g2 < w2.heap.size))
    (hown : w8.ownsRow w.heap.size 9 1 (.slice (some ⟨g, 0, none⟩) (row.length + 1) cap) (row.length + 1) (stv row ++ [.string (bt p)])) (hgr : (wr.alloc ob).grownBy w8 v.ownBlock) (hat : v.ownBlock = some g ∨ g = wr.heap.size + 1) :
    wst (row ++ [p]) (P.drop (i + 1)) = wst R P ∧ (row ++ [p]).length ≤ R.length + (i + 1) ∧ w8.ownsRow w.heap.size 9 1 (.slice (some ⟨g, 0, none⟩) (row.length + 1) cap) (row ++ [p]).length (stv (row ++ [p])) ∧ (∀ g', (Value.slice (some ⟨g, 0, none⟩) (row.length + 1) cap).ownBlock = some g' → g' ≠ g2) ∧ Eqb w8 w2 g2 ∧ Kb 0 w w8 ∧ w2.heap.size ≤ w8.heap.size := by
  obtain ⟨hw, hrl, ho, hg, h2, hk, hz, q1, q2, q3⟩ := (show WK8 _ _ _ _ _ _ _ _ _ _ from h)
  have hok : okp p = true := hok
  have hg2 : g2 < w2.heap.size := hg2
  have hsz := hgr.size
  rw [World.size_alloc] at hsz
  refine ⟨?_, by rw [List.length_append]; simp; omega, by rw [stv_app, List.length_append]; exact hown, fun g' h' => ?_, ?_, kb_app hk ho (Nat.le_refl _) hgr, by omega⟩
  · rw [← hw]
    conv => rhs; rw [wst]
    rw [if_neg q1, if_neg q2, if_pos hok]
  · obtain rfl : g = g' := by injection h'
    rcases hat with e | e
    · exact hg _ e
    · omega
  · have a1 := hgr.block g2 (by rw [World.size_alloc]; omega) (fun e => hg g2 e.symm rfl)
    have a2 := (kb_alloc 0 wr ob).block g2 (Nat.zero_le _) (by omega)
    exact (a1.trans a2).trans h2
set_option maxHeartbeats 32000000 in
theorem sp_walk8 {va : Value} {R P : List (List UInt8)} {l : List UInt8} (hPP : P = spB l) (hl : l.length ≤ 60) (hR : R.length ≤ 60) (w : World) (ha : RowT w va R) :
    Calls Tryd.prog 26 #[va, .string (bt l)] w fun e w' => ((wst R P).1 ≠ 0 → e = .returned (.tuple #[.slice none 0 0, .int .i64 (wst R P).1])) ∧ ((wst R P).1 = 0 → ∃ v, e = .returned (.tuple #[v, .int .i64 0]) ∧ RowT w' v (wst R P).2) ∧ Kb 0 w w' := by
  obtain ⟨pa, ca, rfl, ha2⟩ := ha
  obtain ⟨i1, hi1, hz0, hz1, hz2⟩ := infoT
  have HI1 : Hid (Tryd.prog.info? 9 = some i1) := hi1
  have hRI : (R.length : Int) ≤ 60 := by omega
  have HL : Hid (l.length ≤ 60 ∧ R.length ≤ 60) := (⟨hl, hR⟩ : _ ∧ _)
  have HA : Hid (0 < R.length → ∃ a : Addr, pa = some a ∧ R.length ≤ ca ∧ ∀ j s, (stv R)[j]? = some s → w.cell? (a.add j) = some s) := ha2
  have HPT : Hid (∀ W, Calls Tryd.prog 16 #[.string (bt l)] W fun e w' => ∃ v, e = .returned v ∧ w'.ownsRow W.heap.size 9 1 v P.length (stv P) ∧ Kb 0 W w') := (fun W => hPP ▸ sp_parts hl W : ∀ W, _)
  have HP0 : Hid (0 < P.length) := (by rw [hPP]; exact List.length_pos_iff.2 (spB_ne l) : 0 < P.length)
  have HPL : Hid (∀ q ∈ P, q.length ≤ 60) := (by rw [hPP]; intro q hq; have := spB_part l q hq; omega : ∀ q ∈ P, q.length ≤ 60)
  have hP61 : (P.length : Int) ≤ 61 := by rw [hPP]; have := spB_len l; omega
  clear hi1 hl hR ha2 hPP
  go_enter Tryd.func26, Tryd.ntmps26
  go_wp2_with fail
  go_loopw [6, 14] (fun s6 s14 wr => ∃ (i : Nat), s14 = .int .i64 (i : Int) ∧ i ≤ R.length ∧ Hid (wr.ownsRow w.heap.size 9 1 s6 (R.take i).length (stv (R.take i)) ∧ Kb 0 w wr)) (fun _ s14 _ => R.length - (intOf s14).toNat)
  case atStart => exact ⟨0, rfl, Nat.zero_le _, (⟨World.ownsRow_nil _ _ _ _, Kb.refl _ _⟩ : _ ∧ _)⟩
  case round =>
    obtain ⟨i, rfl, hil, HX⟩ := hrel
    obtain ⟨ho, hk⟩ := (show _ ∧ _ from HX)
    obtain ⟨pv, cv, rfl⟩ := own_shape ho
    clear HX
    by_cases hi : i < R.length
    · have hiI : (i : Int) < (R.length : Int) := by omega
      obtain ⟨a, rfl, hca, hcel⟩ := (show 0 < R.length → _ from HA) (by omega)
      have d0 : wr.cell? (a.add i) = some (.string (bt R[i])) := hk.cell (hcel i _ (stv_at hi))
      have HOW : Hid (wr.ownsRow w.heap.size 9 1 (.slice pv (R.take i).length cv) (R.take i).length (stv (R.take i)) ∧ Kb 0 w wr) := (⟨ho, hk⟩ : _ ∧ _)
      have hDl : ((R.take i).length : Int) ≤ 60 := by rw [List.length_take]; omega
      have eT : R.take (i + 1) = R.take i ++ [R[i]] := List.take_succ_eq_append_getElem hi
      obtain ⟨D, hD⟩ : ∃ D, D = R.take i := ⟨_, rfl⟩
      obtain ⟨p, hp⟩ : ∃ p, p = R[i] := ⟨_, rfl⟩
      rw [← hD] at HOW hDl eT ⊢
      rw [← hp] at d0 eT
      have HET : Hid (R.take (i + 1) = D ++ [p]) := eT
      clear ho hk hil hca hcel eT hD hp HA
      go_wp2_with (refine wpList_append_lies _ (by rfl) (.tmp 18) (.tmp 20) 27 (by rfl) w.heap.size 9 i1 (.string ⟨#[]⟩) 1 16 Tryd.underlying27 HI1 hz0 hz1 hz2 rfl (by decide) (.slice pv D.length cv) D.length (stv D) (by rfl) ((show wr.ownsRow w.heap.size 9 1 (.slice pv D.length cv) D.length (stv D) ∧ _ from HOW).1.alloc _) ⟨wr.heap.size, 0, none⟩ 1 1 [.string (bt p)] (by rfl) rfl (qr_cells wr #[.string (bt p)] 9 [.string (bt p)] rfl) (by intro y hy; simp only [List.mem_cons, List.not_mem_nil, or_false] at hy; rcases hy with rfl; rfl) (by decide) (by unfold maxLen; omega) (by omega) (by rw [World.size_alloc]; have := (show _ ∧ _ from HOW).2.size; omega) (wr.heap.size + 1) (World.size_alloc _ _) ?_; intro g cap w8 hown1 hgrow1 hat hlt; have HN : Hid (w8.ownsRow w.heap.size 9 1 (.slice (some ⟨g, 0, none⟩) (D.length + 1) cap) (R.take (i + 1)).length (stv (R.take (i + 1))) ∧ Kb 0 w w8) := (⟨by rw [show R.take (i + 1) = _ from HET, stv_app, List.length_append]; exact hown1, kb_app (show _ ∧ _ from HOW).2 (show wr.ownsRow w.heap.size 9 1 (.slice pv D.length cv) D.length (stv D) ∧ _ from HOW).1 (Nat.le_refl _) hgrow1⟩ : _ ∧ _); clear hown1 hgrow1 hat hlt HOW)
      go_roundw
      case rel => exact ⟨i + 1, by go_num, by omega, HN⟩
      case measure => simp [intOf]; omega
    obtain rfl : i = R.length := by omega
    rw [List.take_length] at ho ⊢
    have HOW : Hid (wr.ownsRow w.heap.size 9 1 (.slice pv R.length cv) R.length (stv R) ∧ Kb 0 w wr) := (⟨ho, hk⟩ : _ ∧ _)
    have HP1 := (show ∀ W, _ from HPT) wr
    clear ho hk hil hi HA HPT
    go_wp2_with fail
    refine HP1.mono ?_
    rintro e w2 ⟨v2, rfl, o2, k2⟩
    have hP0 : 0 < P.length := HP0
    obtain ⟨g2, c2, rfl, hg2, hg2'⟩ := o2.form hP0
    obtain ⟨p2', c2', e2, r2⟩ := rowt_own o2
    injection e2 with e21 _ e23
    subst e21
    subst e23
    obtain ⟨a2, e2a, hc2, r2c⟩ := r2 hP0
    injection e2a with e2a
    subst e2a
    have HC2 : Hid (∀ i (h : i < P.length), w2.cell? ⟨g2, i, none⟩ = some (.string (bt P[i]))) := (fun i h => by have := r2c i _ (stv_at h); rw [addr0] at this; exact this : ∀ i (h : i < P.length), _)
    obtain ⟨ho, hk⟩ := (show _ ∧ _ from HOW)
    have HI0 : Hid (wst R (P.drop 0) = wst R P ∧ R.length ≤ R.length + 0 ∧ w2.ownsRow w.heap.size 9 1 (.slice pv R.length cv) R.length (stv R) ∧ (∀ g, (Value.slice pv R.length cv).ownBlock = some g → g ≠ g2) ∧ Eqb w2 w2 g2 ∧ Kb 0 w w2 ∧ w2.heap.size ≤ w2.heap.size) := (⟨rfl, Nat.le_refl _, own_keep8 ho (fun g hg => k2.block g (Nat.zero_le _) (ho.lt g hg).2), fun g hg => by have := (ho.lt g hg).2; omega, (rfl : _ = _), hk.trans k2, Nat.le_refl _⟩ : _ ∧ _)
    clear HOW ho hk o2 r2 r2c hg2 k2 HP1 wr
    have HG2 : Hid (g2 < w2.heap.size) := hg2'
    clear hg2'
    go_wp2_with fail
    go_loopw [6, 26] (fun s6 s26 wr => ∃ (i : Nat) (row : List (List UInt8)), s26 = .int .i64 (i : Int) ∧ i ≤ P.length ∧ Hid (wst row (P.drop i) = wst R P ∧ row.length ≤ R.length + i ∧ wr.ownsRow w.heap.size 9 1 s6 row.length (stv row) ∧ (∀ g, s6.ownBlock = some g → g ≠ g2) ∧ Eqb wr w2 g2 ∧ Kb 0 w wr ∧ w2.heap.size ≤ wr.heap.size)) (fun _ s26 _ => P.length - (intOf s26).toNat)
    case atStart => exact ⟨0, R, rfl, Nat.zero_le _, HI0⟩
    case round =>
      clear HI0
      obtain ⟨i, row, rfl, hil, HX⟩ := hrel
      obtain ⟨hw, hrl, ho, hg, h2, hk, hz⟩ := (show _ ∧ _ ∧ _ ∧ _ ∧ _ ∧ _ ∧ _ from HX)
      obtain ⟨pv, cv, rfl, hcv⟩ := own_cap ho
      clear HX
      by_cases hi : i < P.length
      rotate_left
      · obtain rfl : i = P.length := by omega
        have eW : wst R P = (0, row) := by rw [← hw, List.drop_length]; rfl
        have HE : Hid (((wst R P).1 ≠ 0 → Ending.returned (.tuple #[.slice pv row.length cv, .int .i64 0]) = .returned (.tuple #[.slice none 0 0, .int .i64 (wst R P).1])) ∧ ((wst R P).1 = 0 → ∃ v, Ending.returned (.tuple #[.slice pv row.length cv, .int .i64 0]) = .returned (.tuple #[v, .int .i64 0]) ∧ RowT wr v (wst R P).2) ∧ Kb 0 w wr) := (⟨fun q => by rw [eW] at q; exact absurd rfl q, fun _ => ⟨_, rfl, by rw [eW]; exact rowt_own ho⟩, hk⟩ : _ ∧ _)
        clear hw hrl ho hg h2 hk hz hcv eW
        go_wp2_with fail
        refine bodyPost_ret (by simp [results, Tryd.results26, go_sem]; rfl) rfl ?_
        exact HE
      have hiI : (i : Int) < (P.length : Int) := by omega
      have d0 : wr.cell? ⟨g2, i, none⟩ = some (.string (bt P[i])) := (World.cell?_of_block (a := ⟨g2, i, none⟩) h2).trans ((show ∀ i (h : i < P.length), _ from HC2) i hi)
      have ed : P.drop i = P[i] :: P.drop (i + 1) := List.drop_eq_getElem_cons hi
      rw [ed] at hw
      have hpl : (P[i].length : Int) ≤ 60 := by have := (show ∀ q ∈ P, _ from HPL) P[i] (List.getElem_mem hi); omega
      obtain ⟨p, hp⟩ : ∃ p, p = P[i] := ⟨_, rfl⟩
      rw [← hp] at hw d0 hpl
      clear ed hp
      have ebl : (bt p).toList = p := bt_list p
      have hrlI : (row.length : Int) ≤ 121 := by have := (show _ ∧ _ from HL).2; omega
      by_cases q1 : p = [46]
      · subst q1
        have HN : Hid (wst row (P.drop (i + 1)) = wst R P ∧ row.length ≤ R.length + (i + 1) ∧ wr.ownsRow w.heap.size 9 1 (.slice pv row.length cv) row.length (stv row) ∧ (∀ g, (Value.slice pv row.length cv).ownBlock = some g → g ≠ g2) ∧ Eqb wr w2 g2 ∧ Kb 0 w wr ∧ w2.heap.size ≤ wr.heap.size) := (⟨by rw [← hw, wst, if_pos rfl], by omega, ho, hg, h2, hk, hz⟩ : _ ∧ _)
        clear hw ho hg h2 hk hz HC2 HL HP0 HPL
        go_wp2_with fail
        go_roundw
        case rel => exact ⟨i + 1, row, by go_num, by omega, HN⟩
        case measure => simp [intOf]; omega
      have n1 : (p == [46]) = false := by simpa using q1
      by_cases q2 : p = [46, 46]
      · subst q2
        by_cases q3 : row = []
        · subst q3
          have eW : wst R P = (2, []) := by rw [← hw, wst, if_neg (by decide), if_pos rfl, if_pos rfl]
          have HE : Hid (((wst R P).1 ≠ 0 → Ending.returned (.tuple #[.slice none 0 0, .int .i64 2]) = .returned (.tuple #[.slice none 0 0, .int .i64 (wst R P).1])) ∧ ((wst R P).1 = 0 → ∃ v, Ending.returned (.tuple #[.slice none 0 0, .int .i64 2]) = .returned (.tuple #[v, .int .i64 0]) ∧ RowT wr v (wst R P).2) ∧ Kb 0 w wr) := (⟨fun q => by rw [eW], fun q => by rw [eW] at q; exact absurd q (by decide), hk⟩ : _ ∧ _)
          clear hw hrl ho hg h2 hk hz hcv eW HC2 HL HP0 HPL
          simp only [List.length_nil] at *
          go_wp2_with fail
          refine bodyPost_ret (by simp [results, Tryd.results26, go_sem]; rfl) rfl ?_
          exact HE
        obtain ⟨n, hn⟩ : ∃ n, row.length = n + 1 := ⟨row.length - 1, by have := List.length_pos_iff.2 q3; omega⟩
        obtain ⟨g, cap, e0, _, _⟩ := ho.form (by omega)
        injection e0 with e01 _ e03
        subst e01
        subst e03
        have HN : Hid (wst row.dropLast (P.drop (i + 1)) = wst R P ∧ row.dropLast.length ≤ R.length + (i + 1) ∧ wr.ownsRow w.heap.size 9 1 (.slice (some ⟨g, 0, none⟩) n cv) row.dropLast.length (stv row.dropLast) ∧ (∀ g', (Value.slice (some ⟨g, 0, none⟩) n cv).ownBlock = some g' → g' ≠ g2) ∧ Eqb wr w2 g2 ∧ Kb 0 w wr ∧ w2.heap.size ≤ wr.heap.size) := (⟨by rw [← hw, wst, if_neg (by decide), if_pos rfl, if_neg q3], by rw [List.length_dropLast]; omega, own_drop hn ho, fun g' h' => hg g' h', h2, hk, hz⟩ : _ ∧ _)
        rw [hn] at hcv ⊢
        have hnI : (n : Int) ≤ 121 := by omega
        have en : (((n + 1 : Nat) : Int) == 0) = false := by simp; omega
        have hcI : (n : Int) ≤ (cv : Int) := by omega
        clear hw ho hg h2 hk hz HC2 HL HP0 HPL q3 hn hrl hrlI
        go_wp2_with fail
        go_roundw
        case rel => exact ⟨i + 1, row.dropLast, by go_num, by omega, HN⟩
        case measure => simp [intOf]; omega
      have n2 : (p == [46, 46]) = false := by simpa using q2
      by_cases q3 : p = []
      · subst q3
        have eW : wst R P = (1, []) := by rw [← hw, wst, if_neg (by decide), if_neg (by decide), if_neg (by decide)]
        have HE : Hid (((wst R P).1 ≠ 0 → Ending.returned (.tuple #[.slice none 0 0, .int .i64 1]) = .returned (.tuple #[.slice none 0 0, .int .i64 (wst R P).1])) ∧ ((wst R P).1 = 0 → ∃ v, Ending.returned (.tuple #[.slice none 0 0, .int .i64 1]) = .returned (.tuple #[v, .int .i64 0]) ∧ RowT wr v (wst R P).2) ∧ Kb 0 w wr) := (⟨fun q => by rw [eW], fun q => by rw [eW] at q; exact absurd q (by decide), hk⟩ : _ ∧ _)
        clear hw hrl ho hg h2 hk hz hcv eW HC2 HL HP0 HPL
        have e00 : bt [] = ⟨#[]⟩ := rfl
        rw [e00] at *
        go_wp2_with fail
        refine bodyPost_ret (by simp [results, Tryd.results26, go_sem]; rfl) rfl ?_
        exact HE
      have n3 : (p == []) = false := by simpa using q3
      have n4 : p.isEmpty = false := by simpa using q3
      have HALL : Hid (WK8 w w2 wr R P i g2 row p (.slice pv row.length cv)) := (⟨hw, hrl, ho, hg, h2, hk, hz, q1, q2, q3⟩ : WK8 _ _ _ _ _ _ _ _ _ _)
      have hsz : (bt p).size = p.length := bt_size p
      clear hw hrl ho hg h2 hk hz hcv HC2 HP0 HPL q1 q2 q3
      go_wp2_with fail
      go_loopw [11] (fun s11 wx => ∃ (j : Nat), s11 = .int .i64 (j : Int) ∧ j ≤ p.length ∧ Hid ((p.take j).all okb = true) ∧ wx = wr) (fun s11 _ => p.length - (intOf s11).toNat)
      case atStart => exact ⟨0, rfl, Nat.zero_le _, (rfl : _ = _), rfl⟩
      case round =>
        obtain ⟨j, rfl, hjl, HJ, rfl⟩ := hrel
        by_cases hj : j < p.length
        · have hjI : (j : Int) < (p.length : Int) := by omega
          have hix := fun W => ix_bt (List.getElem?_eq_getElem hj) W
          have hby := sp_byte p[j] wr
          cases hkb : okb p[j] with
          | true =>
            rw [hkb] at hby
            have HJ2 : Hid ((p.take (j + 1)).all okb = true) := (all_take hj HJ hkb : _ = _)
            have HBY : Hid (Calls Tryd.prog 35 #[.int .u8 (p[j].toNat : Int)] wr fun e w' => e = .returned (.bool true) ∧ w' = wr) := hby
            clear hkb hby HJ HALL
            go_wp2_with fail
            refine (show Calls _ _ _ _ _ from HBY).mono ?_
            rintro e w8 ⟨rfl, rfl⟩
            go_wp2_with fail
            go_roundw
            case rel => exact ⟨j + 1, by go_num, by omega, HJ2, trivial⟩
            case measure => simp [intOf]; omega
          | false =>
            rw [hkb] at hby
            obtain ⟨hw, hrl, ho, hg, h2, hk, hz, q1, q2, q3⟩ := (show WK8 _ _ _ _ _ _ _ _ _ _ from HALL)
            have eW : wst R P = (1, []) := by rw [← hw, wst, if_neg q1, if_neg q2, if_neg (okp_bad hj hkb)]
            have HE : Hid (((wst R P).1 ≠ 0 → Ending.returned (.tuple #[.slice none 0 0, .int .i64 1]) = .returned (.tuple #[.slice none 0 0, .int .i64 (wst R P).1])) ∧ ((wst R P).1 = 0 → ∃ v, Ending.returned (.tuple #[.slice none 0 0, .int .i64 1]) = .returned (.tuple #[v, .int .i64 0]) ∧ RowT wr v (wst R P).2) ∧ Kb 0 w wr) := (⟨fun q => by rw [eW], fun q => by rw [eW] at q; exact absurd q (by decide), hk⟩ : _ ∧ _)
            have HBY : Hid (Calls Tryd.prog 35 #[.int .u8 (p[j].toNat : Int)] wr fun e w' => e = .returned (.bool false) ∧ w' = wr) := hby
            clear hkb hby HJ HALL hw hrl ho hg h2 hk hz q1 q2 q3 eW
            go_wp2_with fail
            refine (show Calls _ _ _ _ _ from HBY).mono ?_
            rintro e w8 ⟨rfl, rfl⟩
            go_wp2_with fail
            refine bodyPost_ret (by simp [results, Tryd.results26, go_sem]; rfl) rfl ?_
            exact HE
        obtain rfl : j = p.length := by omega
        have HOW : Hid (wr.ownsRow w.heap.size 9 1 (.slice pv row.length cv) row.length (stv row) ∧ Kb 0 w wr) := (⟨(walk_own HALL).1, (walk_own HALL).2⟩ : _ ∧ _)
        have HOKP : Hid (okp p = true) := (okp_all (walk_ne HALL) (by have := (show _ = _ from HJ); rwa [List.take_length] at this) : okp p = true)
        clear HJ hjl hj
        go_wp2_with (refine wpList_append_lies _ (by rfl) (.tmp 55) (.tmp 57) 27 (by rfl) w.heap.size 9 i1 (.string ⟨#[]⟩) 1 16 Tryd.underlying27 HI1 hz0 hz1 hz2 rfl (by decide) (.slice pv row.length cv) row.length (stv row) (by rfl) ((show wr.ownsRow w.heap.size 9 1 (.slice pv row.length cv) row.length (stv row) ∧ _ from HOW).1.alloc _) ⟨wr.heap.size, 0, none⟩ 1 1 [.string (bt p)] (by rfl) rfl (qr_cells wr #[.string (bt p)] 9 [.string (bt p)] rfl) (by intro y hy; simp only [List.mem_cons, List.not_mem_nil, or_false] at hy; rcases hy with rfl; rfl) (by decide) (by unfold maxLen; omega) (by omega) (by rw [World.size_alloc]; have := (show _ ∧ _ from HOW).2.size; omega) (wr.heap.size + 1) (World.size_alloc _ _) ?_; intro g cap w8 hown1 hgrow1 hat hlt; have HN : Hid (wst (row ++ [p]) (P.drop (i + 1)) = wst R P ∧ (row ++ [p]).length ≤ R.length + (i + 1) ∧ w8.ownsRow w.heap.size 9 1 (.slice (some ⟨g, 0, none⟩) (row.length + 1) cap) (row ++ [p]).length (stv (row ++ [p])) ∧ (∀ g', (Value.slice (some ⟨g, 0, none⟩) (row.length + 1) cap).ownBlock = some g' → g' ≠ g2) ∧ Eqb w8 w2 g2 ∧ Kb 0 w w8 ∧ w2.heap.size ≤ w8.heap.size) := (walk_app HALL HOKP HG2 hown1 hgrow1 hat : _ ∧ _); clear hown1 hgrow1 hat hlt HOW HALL)
        go_roundw
        case rel => exact ⟨i + 1, row ++ [p], by go_num, by omega, HN⟩
        case measure => simp [intOf]; omega
theorem sp_walk {va : Value} {R : List (List UInt8)} {l : List UInt8} (hl : l.length ≤ 60) (hR : R.length ≤ 60) (w : World) (ha : RowT w va R) :
    Calls Tryd.prog 26 #[va, .string (bt l)] w fun e w' => ((wst R (spB l)).1 ≠ 0 → e = .returned (.tuple #[.slice none 0 0, .int .i64 (wst R (spB l)).1])) ∧ ((wst R (spB l)).1 = 0 → ∃ v, e = .returned (.tuple #[v, .int .i64 0]) ∧ RowT w' v (wst R (spB l)).2) ∧ Kb 0 w w' := sp_walk8 rfl hl hR w ha
end Go.Proofs.YtgocahalfanpjaaDoor.Fo
