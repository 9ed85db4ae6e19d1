import Derived.Test.YtgocahalfanpjaaDoorTrd
namespace Go.Proofs.YtgocahalfanpjaaDoor.Fo
open Go.ChangeShapes Go.WideShapes Go.ChangeAt Go.RowKit
set_option linter.unusedVariables false
set_option maxRecDepth 100000
def IxP (r : Int) (q : List UInt8) (D : List (List UInt8)) : Prop := decide (0 ≤ r) = decide (q ∈ D)
set_option maxHeartbeats 16000000 in
theorem im_ixn {v : Value} {B : Nat} {D : List (List UInt8)} {q : List UInt8} (w : World) (ho : w.ownsRow B 9 1 v D.length (stv D)) (hD : D.length ≤ 8) :
    Calls Tryd.prog 46 #[v, .string (bt q)] w fun e w' => ∃ r : Int, e = .returned (.int .i64 r) ∧ IxP r q D ∧ w' = w := by
  obtain ⟨pv, cv, rfl⟩ := own_shape ho
  have hDI : (D.length : Int) ≤ 8 := by omega
  have HO : Hid (w.ownsRow B 9 1 (.slice pv D.length cv) D.length (stv D)) := ho
  have ebq : (bt q).toList = q := bt_list q
  clear ho hD
  go_enter Tryd.func46, Tryd.ntmps46
  go_wp2_with fail
  go_loopw [8] (fun s8 wr => ∃ (j : Nat), s8 = .int .i64 (j : Int) ∧ j ≤ D.length ∧ mt D q j = false ∧ w = wr) (fun s8 _ => D.length - (intOf s8).toNat)
  case atStart => exact ⟨0, rfl, Nat.zero_le _, rfl, rfl⟩
  case round =>
    obtain ⟨j, rfl, hjn, hm, rfl⟩ := hrel
    rcases Nat.lt_or_ge j D.length with hj | hj
    case inr =>
      obtain rfl : j = D.length := by omega
      have hjI : ¬ ((D.length : Nat) : Int) < (D.length : Int) := by omega
      rw [mt_all] at hm
      have HQ : Hid (IxP (-1) q D) := (by unfold IxP; rw [hm]; rfl : IxP _ _ _)
      clear hm hjn hj HO
      go_wp2_with fail
      go_ret
      exact ⟨-1, rfl, HQ, rfl⟩
    have hjI : (j : Int) < (D.length : Int) := by omega
    obtain ⟨g, cg, e0, hcg⟩ := own_pos9 (show w.ownsRow B 9 1 (.slice pv D.length cv) D.length (stv D) from HO) (by omega)
    injection e0 with e1 _ e3
    subst e1 e3
    obtain ⟨p, hp⟩ : ∃ p, p = D[j] := ⟨_, rfl⟩
    have dj : w.cell? ⟨g, j, none⟩ = some (.string (bt p)) := by
      rw [(show w.ownsRow B 9 1 _ D.length (stv D) from HO).cellAt j (by rw [Nat.mul_one]; exact hj), stv_at hj, hp]
    have hcgI : (D.length : Int) ≤ (cv : Int) := by omega
    have hm1 := mt_succ (c := q) hj
    rw [← hp, hm] at hm1
    have ebp : (bt p).toList = p := bt_list p
    have hin : p = q → q ∈ D := fun e => by rw [← e, hp]; exact List.getElem_mem hj
    have HM : Hid (mt D q (j + 1) = (false || (p == q)) ∧ (p = q → q ∈ D)) := (⟨hm1, hin⟩ : _ ∧ _)
    clear hm1 hin hm hp HO hj hcg
    by_cases hpq : q = p
    · have h1 : (q == p) = true := by simpa using hpq
      have HQ : Hid (IxP (j : Int) q D) := (by unfold IxP; rw [decide_eq_true ((show _ ∧ _ from HM).2 hpq.symm), decide_eq_true (by omega)] : IxP _ _ _)
      clear hpq HM
      go_wp2_with fail
      go_ret
      exact ⟨_, rfl, HQ, rfl⟩
    · have h1 : (q == p) = false := by simpa using hpq
      have HM2 : Hid (mt D q (j + 1) = false) := (show _ ∧ _ from HM).1.trans (by
        have : (p == q) = false := by simpa using fun e : p = q => hpq e.symm
        rw [this]; rfl)
      clear hpq HM
      go_wp2_with fail
      go_roundw
      case rel => exact ⟨j + 1, by go_num, by omega, HM2, by first | rfl | trivial⟩
      case measure => simp [intOf]; omega
set_option maxHeartbeats 16000000 in
theorem im_cont {v : Value} {B : Nat} {D : List (List UInt8)} {q : List UInt8} (w : World) (ho : w.ownsRow B 9 1 v D.length (stv D)) (hD : D.length ≤ 8) :
    Calls Tryd.prog 34 #[v, .string (bt q)] w fun e w' => e = .returned (.bool (decide (q ∈ D))) ∧ w' = w := by
  have h : Calls Tryd.prog 46 #[v, .string (bt q)] w fun e w' => ∃ r : Int, e = .returned (.int .i64 r) ∧ decide (0 ≤ r) = decide (q ∈ D) ∧ w' = w := im_ixn w ho hD
  obtain ⟨pv, cv, rfl⟩ := own_shape ho
  obtain ⟨b, hb⟩ : ∃ b, b = decide (q ∈ D) := ⟨_, rfl⟩
  rw [← hb] at h ⊢
  clear ho hD hb
  go_enter Tryd.func34, Tryd.ntmps34
  go_wp2_with fail
  refine h.mono ?_
  rintro e w' ⟨r, rfl, hr, rfl⟩
  have HR : Hid (decide (0 ≤ r) = b) := hr
  clear h hr
  go_wp2_with fail
  go_ret
  exact ⟨by rw [← (show decide (0 ≤ r) = b from HR)]; rfl, rfl⟩
end Go.Proofs.YtgocahalfanpjaaDoor.Fo
