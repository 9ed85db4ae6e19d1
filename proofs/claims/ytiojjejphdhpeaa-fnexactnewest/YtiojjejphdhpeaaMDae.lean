import Derived.Test.YtiojjejphdhpeaaMDac
namespace Go.Proofs.Ytiojjejphdhpeaa.Fo
open Go.ChangeShapes Go.WideShapes Go.ChangeAt Go.RowKit
set_option linter.unusedVariables false
set_option maxRecDepth 100000
set_option maxHeartbeats 8000000 in
theorem mark_row1 {L H : Nat} {v : Value} {n : Nat} {F : Nat → Ed} {g : Nat} {V : Nat → Value} {G : Nat → Nat} (w : World) (k : Int) (h : OwE 1 L H w v n F g V G) (hn : n ≤ 1048576) (hc : ∀ i, i < n → (F i).c ≤ 1048576) (hk1 : 1 ≤ k) (hsm : k + (sm (mks 1 F) n : Int) ≤ 90000000) :
    Calls Try.prog 52 #[v, .int .i64 k] w fun e w' => e = .returned (.int .i64 (k + (sm (mks 1 F) n : Int))) ∧ Kq (fun q => L ≤ q ∧ q < H) w w' ∧ MdE 1 L H w' v n F g V G k := by
  obtain ⟨p, cap, rfl, h2⟩ := h.sl
  by_cases h0 : n = 0
  · subst h0
    go_enter Try.func52, Try.ntmps52
    go_wp2_with fail
    refine wp_loop_rounds 1 ?_
    rw [rounds_succ]
    go_wp2_with fail
    go_ret
    exact ⟨by simp [sm], Kq.refl _ _, ⟨⟨p, cap, rfl, fun q => by omega⟩, fun q => by omega, fun j hj => by omega, fun i hi => by omega, fun i hi => by omega⟩⟩
  obtain ⟨rfl, hcap⟩ := h2 (by omega)
  have HI0 : Hid (GE 1 L H w n F g V G k 0 w) := (⟨Kq.refl _ _, fun j hj t ht => by dsimp only; rw [if_neg (by omega)]; exact h.cs j hj t ht, h.fz (by omega), fun j _ hj => h.ow j hj, fun j hj => by omega⟩ : GE 1 L H w n F g V G k 0 w)
  have hnI : (n : Int) ≤ 1048576 := by omega
  have HS : Hid ((L ≤ g ∧ g < H) ∧ (∀ i, i < n → 0 < (F i).c → L ≤ G i ∧ G i < H ∧ G i ≠ g) ∧ (∀ i j, i < n → j < n → i ≠ j → 0 < (F i).c → 0 < (F j).c → G i ≠ G j) ∧ (∀ i, i < n → (F i).c ≤ 1048576) ∧ k + (sm (mks 1 F) n : Int) ≤ 90000000 ∧ n ≤ cap) := (⟨h.bg (by omega), h.lo, h.di, hc, hsm, hcap⟩ : _ ∧ _)
  clear h2 h hc hsm h0
  go_enter Try.func52, Try.ntmps52
  go_wp2_with fail
  go_loopw [1, 5] (fun s1 s5 wr => ∃ i : Nat, s5 = .int .i64 (i : Int) ∧ s1 = .int .i64 (k + (sm (mks 1 F) i : Int)) ∧ i ≤ n ∧ Hid (GE 1 L H w n F g V G k i wr)) (fun _ s5 _ => n - (intOf s5).toNat)
  case atStart => exact ⟨0, rfl, by simp [sm], Nat.zero_le _, HI0⟩
  case round =>
    clear HI0
    obtain ⟨i, rfl, rfl, hin, HI⟩ := hrel
    have hI := (show GE 1 L H w n F g V G k i wr from HI)
    clear HI
    obtain ⟨bg, lo, di, hcc, hsm, hcap2⟩ := (show _ ∧ _ ∧ _ ∧ _ ∧ _ ∧ _ from HS)
    rcases Nat.lt_or_ge i n with hi | hi
    · have hiI : (i : Int) < (n : Int) := by omega
      have hmo := sm_mono (mks 1 F) (show i + 1 ≤ n from hi)
      have hsu : sm (mks 1 F) (i + 1) = sm (mks 1 F) i + (1 - 1 + (F i).c) := rfl
      have hci := hcc i hi
      obtain ⟨X, hX⟩ : ∃ X : Int, X = k + (sm (mks 1 F) i : Int) := ⟨_, rfl⟩
      have hx : X ≤ 90000000 := by omega
      have hx0 : 1 ≤ X := by omega
      rw [← hX]
      obtain ⟨y, hy⟩ : ∃ y, y = wr := ⟨_, rfl⟩
      have hyL : y = setL wr g (i * 1) (hml 1 X) := by rw [hy]; rfl
      have hyg : ∀ q, q ≠ g → y.heap[q]? = wr.heap[q]? := fun q hq => by rw [hy]
      have r1 : y.cell? ⟨g, i, none⟩ = some (V i) := by
        rw [hy]
        have := hI.cs i hi 0 (by omega); dsimp only at this; rw [if_neg (by omega), Nat.mul_one, Nat.add_zero] at this; exact this
      have HMV := mark_byts y X ((hI.ow i (Nat.le_refl _) hi).kb (fun hc => hyg _ (lo i hi (by omega)).2.2)) hci (by omega) (by omega)
      have HST : Hid (∀ w6, Kq (fun q => 0 < (F i).c ∧ q = G i) y w6 → OwnR w6 (V i) (G i) (F i).c (fun t => .int .u8 ((X + (t : Int)) % 256)) → GE 1 L H w n F g V G k (i + 1) w6) := (fun w6 kq6 md6 => by
        rw [hyL, hX] at kq6
        refine hI.step (.inl rfl) hi bg lo di kq6 ?_
        have e : X = k + (sm (mks 1 F) i : Int) + ((1 - 1 : Nat) : Int) := by rw [hX]; simp
        rw [e] at md6
        exact md6 : ∀ w6, _)
      obtain ⟨pv, cv, hV, _⟩ := (hI.ow i (Nat.le_refl _) hi).sl
      rw [hV] at r1 HMV
      have HKN : Hid (X + ((F i).c : Int) = k + (sm (mks 1 F) (i + 1) : Int) ∧ V i = .slice pv (F i).c cv) := (⟨by rw [hsu, hX]; push_cast; omega, hV⟩ : _ ∧ _)
      have HY : Hid (y = wr) := hy
      clear hI bg lo di hcc hsm hmo hsu hX hy hyL hyg hV HS
      rw [show wr = y from (show y = _ from HY).symm]
      clear HY
      go_wp2_with fail
      refine HMV.mono ?_
      rintro e w6 ⟨rfl, kq6, md6⟩
      have HN : Hid (GE 1 L H w n F g V G k (i + 1) w6) := (show ∀ w6, _ → _ → _ from HST) w6 kq6 (by rw [(show _ ∧ _ from HKN).2]; exact md6)
      clear kq6 md6 HMV HST r1
      go_wp2_with fail
      go_roundw
      case rel => exact ⟨i + 1, by go_num, by rw [← (show _ ∧ _ from HKN).1], by omega, HN⟩
      case measure => simp [intOf]; omega
    · obtain rfl : i = n := by omega
      have hI' : ¬ (i : Int) < (i : Int) := by omega
      have HE : Hid (GE 1 L H w i F g V G k i wr ∧ (L ≤ g ∧ g < H) ∧ (∀ q, q < i → 0 < (F q).c → L ≤ G q ∧ G q < H) ∧ i ≤ cap) := (⟨hI, bg, fun q hq hc => ⟨(lo q hq hc).1, (lo q hq hc).2.1⟩, hcap2⟩ : _ ∧ _)
      clear hI hi hin hcap bg lo di hcc hsm hcap2 HS
      go_wp2_with fail
      go_ret
      obtain ⟨hE, bg, lo, hcap⟩ := (show _ ∧ _ ∧ _ ∧ _ from HE)
      exact ⟨rfl, hE.kq, ⟨⟨_, _, rfl, fun _ => ⟨rfl, hcap⟩⟩, fun _ => bg, fun j hj t ht => by have := hE.cs j hj t ht; dsimp only at this; rw [if_pos hj] at this; exact this, hE.md, lo⟩⟩
set_option maxHeartbeats 8000000 in
theorem held_row1 {L H : Nat} {v : Value} {n : Nat} {F : Nat → Ed} {g : Nat} {V : Nat → Value} {G : Nat → Nat} (w : World) (k : Int) (h : MdE 1 L H w v n F g V G k) (hn : n ≤ 1048576) (hc : ∀ i, i < n → (F i).c ≤ 1048576) (hk1 : 1 ≤ k) (hsm : k + (sm (mks 1 F) n : Int) ≤ 90000000) :
    Calls Try.prog 54 #[v, .int .i64 k] w fun e w' => e = .returned (.int .i64 (k + (sm (mks 1 F) n : Int))) ∧ Kb 0 w w' := by
  obtain ⟨p, cap, rfl, h2⟩ := h.sl
  have hnI : (n : Int) ≤ 1048576 := by omega
  have HH : Hid ((0 < n → p = some ⟨g, 0, none⟩ ∧ n ≤ cap) ∧ Cs 1 w g n (fun j => hml 1 (k + (sm (mks 1 F) j : Int)) ++ [V j]) ∧ (∀ i, i < n → OwnR w (V i) (G i) (F i).c (fun j => .int .u8 ((k + (sm (mks 1 F) i : Int) + ((1 - 1 : Nat) : Int) + (j : Int)) % 256))) ∧ (∀ i, i < n → (F i).c ≤ 1048576) ∧ k + (sm (mks 1 F) n : Int) ≤ 90000000) := (⟨h2, h.cs, h.md, hc, hsm⟩ : _ ∧ _)
  clear h2 h hc hsm
  go_enter Try.func54, Try.ntmps54
  go_wp2_with fail
  go_loopw [1, 5] (fun s1 s5 wr => ∃ i : Nat, s5 = .int .i64 (i : Int) ∧ s1 = .int .i64 (k + (sm (mks 1 F) i : Int)) ∧ i ≤ n ∧ Hid (Kb 0 w wr)) (fun _ s5 _ => n - (intOf s5).toNat)
  case atStart => exact ⟨0, rfl, by simp [sm], Nat.zero_le _, Kb.refl _ _⟩
  case round =>
    obtain ⟨i, rfl, rfl, hin, HI⟩ := hrel
    have kw := (show Kb 0 w wr from HI)
    obtain ⟨hp, hcs, hmd, hcc, hsm⟩ := (show _ ∧ _ ∧ _ ∧ _ ∧ _ from HH)
    rcases Nat.lt_or_ge i n with hi | hi
    · have hiI : (i : Int) < (n : Int) := by omega
      obtain ⟨rfl, hcap⟩ := hp (by omega)
      have hmo := sm_mono (mks 1 F) (show i + 1 ≤ n from hi)
      have hsu : sm (mks 1 F) (i + 1) = sm (mks 1 F) i + (1 - 1 + (F i).c) := rfl
      have hci := hcc i hi
      have hm := hmd i hi
      obtain ⟨X, hX⟩ : ∃ X : Int, X = k + (sm (mks 1 F) i : Int) := ⟨_, rfl⟩
      rw [← hX] at hm
      have hx : X ≤ 90000000 := by omega
      have hx0 : 1 ≤ X := by omega
      have hx2 : ¬ X + ((F i).c : Int) < 0 := by omega
      have d0 : wr.cell? ⟨g, i, none⟩ = some (V i) := by have := hcs i hi 0 (by omega); dsimp only at this; rw [← hX, Nat.mul_one, Nat.add_zero] at this; exact kw.cell this
      have e : X + ((1 - 1 : Nat) : Int) = X := by simp
      rw [e] at hm
      have hm2 : OwnR wr (V i) (G i) (F i).c (fun j => .int .u8 ((X + (j : Int)) % 256)) := hm.kb (fun hne => kw.block _ (Nat.zero_le _) (lt_of_cell (hm.cell 0 (by omega))))
      have HMV := held_byts wr X hm2.row hci (by omega) (by omega)
      obtain ⟨pv, cv, hV, _⟩ := hm.sl
      rw [hV] at d0 HMV
      have HKN : Hid (X + ((F i).c : Int) = k + (sm (mks 1 F) (i + 1) : Int)) := (by rw [hsu, hX]; push_cast; omega : X + ((F i).c : Int) = k + (sm (mks 1 F) (i + 1) : Int))
      rw [← hX]
      clear hp hcs hmd hcc hsm hmo hsu hX hm hm2 hV HH hcap e
      go_wp2_with fail
      refine HMV.mono ?_
      rintro e w6 ⟨rfl, d6, hw6⟩
      have HN : Hid (Kb 0 w w6) := by rw [hw6]; exact kw.drewN d6
      clear hw6 kw HMV d0 HI
      go_wp2_with fail
      go_roundw
      case rel => exact ⟨i + 1, by go_num, by rw [← (show _ = _ from HKN)], by omega, HN⟩
      case measure => simp [intOf]; omega
    · obtain rfl : i = n := by omega
      have hI' : ¬ (i : Int) < (i : Int) := by omega
      clear HH hi hin kw hp hcs hmd hcc hsm
      go_wp2_with fail
      go_ret
      exact ⟨rfl, HI⟩
set_option maxHeartbeats 8000000 in
theorem mark_row2 {L H : Nat} {v : Value} {n : Nat} {F : Nat → Ed} {g : Nat} {V : Nat → Value} {G : Nat → Nat} (w : World) (k : Int) (h : OwE 2 L H w v n F g V G) (hn : n ≤ 1048576) (hc : ∀ i, i < n → (F i).c ≤ 1048576) (hk1 : 1 ≤ k) (hsm : k + (sm (mks 2 F) n : Int) ≤ 90000000) :
    Calls Try.prog 53 #[v, .int .i64 k] w fun e w' => e = .returned (.int .i64 (k + (sm (mks 2 F) n : Int))) ∧ Kq (fun q => L ≤ q ∧ q < H) w w' ∧ MdE 2 L H w' v n F g V G k := by
  obtain ⟨p, cap, rfl, h2⟩ := h.sl
  by_cases h0 : n = 0
  · subst h0
    go_enter Try.func53, Try.ntmps53
    go_wp2_with fail
    refine wp_loop_rounds 1 ?_
    rw [rounds_succ]
    go_wp2_with fail
    go_ret
    exact ⟨by simp [sm], Kq.refl _ _, ⟨⟨p, cap, rfl, fun q => by omega⟩, fun q => by omega, fun j hj => by omega, fun i hi => by omega, fun i hi => by omega⟩⟩
  obtain ⟨rfl, hcap⟩ := h2 (by omega)
  have HI0 : Hid (GE 2 L H w n F g V G k 0 w) := (⟨Kq.refl _ _, fun j hj t ht => by dsimp only; rw [if_neg (by omega)]; exact h.cs j hj t ht, h.fz (by omega), fun j _ hj => h.ow j hj, fun j hj => by omega⟩ : GE 2 L H w n F g V G k 0 w)
  have hnI : (n : Int) ≤ 1048576 := by omega
  have HS : Hid ((L ≤ g ∧ g < H) ∧ (∀ i, i < n → 0 < (F i).c → L ≤ G i ∧ G i < H ∧ G i ≠ g) ∧ (∀ i j, i < n → j < n → i ≠ j → 0 < (F i).c → 0 < (F j).c → G i ≠ G j) ∧ (∀ i, i < n → (F i).c ≤ 1048576) ∧ k + (sm (mks 2 F) n : Int) ≤ 90000000 ∧ n ≤ cap) := (⟨h.bg (by omega), h.lo, h.di, hc, hsm, hcap⟩ : _ ∧ _)
  clear h2 h hc hsm h0
  go_enter Try.func53, Try.ntmps53
  go_wp2_with fail
  go_loopw [1, 5] (fun s1 s5 wr => ∃ i : Nat, s5 = .int .i64 (i : Int) ∧ s1 = .int .i64 (k + (sm (mks 2 F) i : Int)) ∧ i ≤ n ∧ Hid (GE 2 L H w n F g V G k i wr)) (fun _ s5 _ => n - (intOf s5).toNat)
  case atStart => exact ⟨0, rfl, by simp [sm], Nat.zero_le _, HI0⟩
  case round =>
    clear HI0
    obtain ⟨i, rfl, rfl, hin, HI⟩ := hrel
    have hI := (show GE 2 L H w n F g V G k i wr from HI)
    clear HI
    obtain ⟨bg, lo, di, hcc, hsm, hcap2⟩ := (show _ ∧ _ ∧ _ ∧ _ ∧ _ ∧ _ from HS)
    rcases Nat.lt_or_ge i n with hi | hi
    · have hiI : (i : Int) < (n : Int) := by omega
      have hmo := sm_mono (mks 2 F) (show i + 1 ≤ n from hi)
      have hsu : sm (mks 2 F) (i + 1) = sm (mks 2 F) i + (2 - 1 + (F i).c) := rfl
      have hci := hcc i hi
      obtain ⟨X, hX⟩ : ∃ X : Int, X = k + (sm (mks 2 F) i : Int) := ⟨_, rfl⟩
      have hx : X ≤ 90000000 := by omega
      have hx0 : 1 ≤ X := by omega
      rw [← hX]
      have cu0 : wr.cell? ⟨g, i * 2, none⟩ = some (.int .i64 (F i).b) := by have := hI.cs i hi 0 (by omega); dsimp only at this; rw [if_neg (by omega)] at this; exact this
      have fu0 : wr.frozen? ⟨g, i * 2, none⟩ = false := hI.fz _
      obtain ⟨y, hy⟩ : ∃ y, y = wr.setCell ⟨g, i * 2, none⟩ (.int .i64 X) := ⟨_, rfl⟩
      have hyL : y = setL wr g (i * 2) (hml 2 X) := hy
      have hyg : ∀ q, q ≠ g → y.heap[q]? = wr.heap[q]? := fun q hq => by rw [hy]; exact Below.heap_setCell _ _ _ _ hq
      have r1 : y.cell? ⟨g, i * 2 + 1, none⟩ = some (V i) := by
        rw [hy]
        rw [set_ne _ _ _ _ _ (by omega)]; have := hI.cs i hi 1 (by omega); dsimp only at this; rw [if_neg (by omega)] at this; exact this
      have HMV := mark_byts y (X + 1) ((hI.ow i (Nat.le_refl _) hi).kb (fun hc => hyg _ (lo i hi (by omega)).2.2)) hci (by omega) (by omega)
      have HST : Hid (∀ w6, Kq (fun q => 0 < (F i).c ∧ q = G i) y w6 → OwnR w6 (V i) (G i) (F i).c (fun t => .int .u8 (((X + 1) + (t : Int)) % 256)) → GE 2 L H w n F g V G k (i + 1) w6) := (fun w6 kq6 md6 => by
        rw [hyL, hX] at kq6
        refine hI.step (.inr (.inl rfl)) hi bg lo di kq6 ?_
        have e : (X + 1) = k + (sm (mks 2 F) i : Int) + ((2 - 1 : Nat) : Int) := by rw [hX]; rfl
        rw [e] at md6
        exact md6 : ∀ w6, _)
      obtain ⟨pv, cv, hV, _⟩ := (hI.ow i (Nat.le_refl _) hi).sl
      rw [hV] at r1 HMV
      have HKN : Hid ((X + 1) + ((F i).c : Int) = k + (sm (mks 2 F) (i + 1) : Int) ∧ V i = .slice pv (F i).c cv) := (⟨by rw [hsu, hX]; push_cast; omega, hV⟩ : _ ∧ _)
      have HY : Hid (y = wr.setCell ⟨g, i * 2, none⟩ (.int .i64 X)) := hy
      clear hI bg lo di hcc hsm hmo hsu hX hy hyL hyg hV HS
      go_upto_region 5 with fail
      rw [← (show y = _ from HY)]
      clear HY cu0 fu0
      go_wp2_with fail
      refine HMV.mono ?_
      rintro e w6 ⟨rfl, kq6, md6⟩
      have HN : Hid (GE 2 L H w n F g V G k (i + 1) w6) := (show ∀ w6, _ → _ → _ from HST) w6 kq6 (by rw [(show _ ∧ _ from HKN).2]; exact md6)
      clear kq6 md6 HMV HST r1
      go_wp2_with fail
      go_roundw
      case rel => exact ⟨i + 1, by go_num, by rw [← (show _ ∧ _ from HKN).1], by omega, HN⟩
      case measure => simp [intOf]; omega
    · obtain rfl : i = n := by omega
      have hI' : ¬ (i : Int) < (i : Int) := by omega
      have HE : Hid (GE 2 L H w i F g V G k i wr ∧ (L ≤ g ∧ g < H) ∧ (∀ q, q < i → 0 < (F q).c → L ≤ G q ∧ G q < H) ∧ i ≤ cap) := (⟨hI, bg, fun q hq hc => ⟨(lo q hq hc).1, (lo q hq hc).2.1⟩, hcap2⟩ : _ ∧ _)
      clear hI hi hin hcap bg lo di hcc hsm hcap2 HS
      go_wp2_with fail
      go_ret
      obtain ⟨hE, bg, lo, hcap⟩ := (show _ ∧ _ ∧ _ ∧ _ from HE)
      exact ⟨rfl, hE.kq, ⟨⟨_, _, rfl, fun _ => ⟨rfl, hcap⟩⟩, fun _ => bg, fun j hj t ht => by have := hE.cs j hj t ht; dsimp only at this; rw [if_pos hj] at this; exact this, hE.md, lo⟩⟩
set_option maxHeartbeats 8000000 in
theorem held_row2 {L H : Nat} {v : Value} {n : Nat} {F : Nat → Ed} {g : Nat} {V : Nat → Value} {G : Nat → Nat} (w : World) (k : Int) (h : MdE 2 L H w v n F g V G k) (hn : n ≤ 1048576) (hc : ∀ i, i < n → (F i).c ≤ 1048576) (hk1 : 1 ≤ k) (hsm : k + (sm (mks 2 F) n : Int) ≤ 90000000) :
    Calls Try.prog 55 #[v, .int .i64 k] w fun e w' => e = .returned (.int .i64 (k + (sm (mks 2 F) n : Int))) ∧ Kb 0 w w' := by
  obtain ⟨p, cap, rfl, h2⟩ := h.sl
  have hnI : (n : Int) ≤ 1048576 := by omega
  have HH : Hid ((0 < n → p = some ⟨g, 0, none⟩ ∧ n ≤ cap) ∧ Cs 2 w g n (fun j => hml 2 (k + (sm (mks 2 F) j : Int)) ++ [V j]) ∧ (∀ i, i < n → OwnR w (V i) (G i) (F i).c (fun j => .int .u8 ((k + (sm (mks 2 F) i : Int) + ((2 - 1 : Nat) : Int) + (j : Int)) % 256))) ∧ (∀ i, i < n → (F i).c ≤ 1048576) ∧ k + (sm (mks 2 F) n : Int) ≤ 90000000) := (⟨h2, h.cs, h.md, hc, hsm⟩ : _ ∧ _)
  clear h2 h hc hsm
  go_enter Try.func55, Try.ntmps55
  go_wp2_with fail
  go_loopw [1, 5] (fun s1 s5 wr => ∃ i : Nat, s5 = .int .i64 (i : Int) ∧ s1 = .int .i64 (k + (sm (mks 2 F) i : Int)) ∧ i ≤ n ∧ Hid (Kb 0 w wr)) (fun _ s5 _ => n - (intOf s5).toNat)
  case atStart => exact ⟨0, rfl, by simp [sm], Nat.zero_le _, Kb.refl _ _⟩
  case round =>
    obtain ⟨i, rfl, rfl, hin, HI⟩ := hrel
    have kw := (show Kb 0 w wr from HI)
    obtain ⟨hp, hcs, hmd, hcc, hsm⟩ := (show _ ∧ _ ∧ _ ∧ _ ∧ _ from HH)
    rcases Nat.lt_or_ge i n with hi | hi
    · have hiI : (i : Int) < (n : Int) := by omega
      obtain ⟨rfl, hcap⟩ := hp (by omega)
      have hmo := sm_mono (mks 2 F) (show i + 1 ≤ n from hi)
      have hsu : sm (mks 2 F) (i + 1) = sm (mks 2 F) i + (2 - 1 + (F i).c) := rfl
      have hci := hcc i hi
      have hm := hmd i hi
      obtain ⟨X, hX⟩ : ∃ X : Int, X = k + (sm (mks 2 F) i : Int) := ⟨_, rfl⟩
      rw [← hX] at hm
      have hx : X ≤ 90000000 := by omega
      have hx0 : 1 ≤ X := by omega
      have hx2 : ¬ (X + 1) + ((F i).c : Int) < 0 := by omega
      have d0 : wr.cell? ⟨g, i * 2, none⟩ = some (.int .i64 X) := by have := hcs i hi 0 (by omega); dsimp only at this; rw [← hX] at this; exact kw.cell this
      have d1 : wr.cell? ⟨g, i * 2 + 1, none⟩ = some (V i) := by have := hcs i hi 1 (by omega); dsimp only at this; rw [← hX] at this; exact kw.cell this
      have hne : (X != X) = false := by simp
      have e : X + ((2 - 1 : Nat) : Int) = (X + 1) := by rfl
      rw [e] at hm
      have hm2 : OwnR wr (V i) (G i) (F i).c (fun j => .int .u8 (((X + 1) + (j : Int)) % 256)) := hm.kb (fun hne => kw.block _ (Nat.zero_le _) (lt_of_cell (hm.cell 0 (by omega))))
      have HMV := held_byts wr (X + 1) hm2.row hci (by omega) (by omega)
      obtain ⟨pv, cv, hV, _⟩ := hm.sl
      rw [hV] at d1 HMV
      have HKN : Hid ((X + 1) + ((F i).c : Int) = k + (sm (mks 2 F) (i + 1) : Int)) := (by rw [hsu, hX]; push_cast; omega : (X + 1) + ((F i).c : Int) = k + (sm (mks 2 F) (i + 1) : Int))
      rw [← hX]
      clear hp hcs hmd hcc hsm hmo hsu hX hm hm2 hV HH hcap e
      go_wp2_with fail
      refine HMV.mono ?_
      rintro e w6 ⟨rfl, d6, hw6⟩
      have HN : Hid (Kb 0 w w6) := by rw [hw6]; exact kw.drewN d6
      clear hw6 kw HMV d0 d1 HI
      go_wp2_with fail
      go_roundw
      case rel => exact ⟨i + 1, by go_num, by rw [← (show _ = _ from HKN)], by omega, HN⟩
      case measure => simp [intOf]; omega
    · obtain rfl : i = n := by omega
      have hI' : ¬ (i : Int) < (i : Int) := by omega
      clear HH hi hin kw hp hcs hmd hcc hsm
      go_wp2_with fail
      go_ret
      exact ⟨rfl, HI⟩
end Go.Proofs.Ytiojjejphdhpeaa.Fo
