import Derived.Test.YtiojjejphdhpeaaMDga
import Derived.Test.YtiojjejphdhpeaaMDgb
namespace Go.Proofs.Ytiojjejphdhpeaa.Fo
open Go.ChangeShapes Go.WideShapes Go.ChangeAt Go.RowKit
set_option linter.unusedVariables false
set_option maxRecDepth 100000
set_option linter.unusedSimpArgs false
theorem rowv_keep {W W' : World} {v : Value} {n : Nat} {A : Nat → Value} (h : RowV W v n A) (k : Kb 0 W W') : RowV W' v n A := by
  obtain ⟨pa, cap, e, h2⟩ := h
  refine ⟨pa, cap, e, fun hn => ?_⟩
  obtain ⟨a, h3, h4, h5⟩ := h2 hn
  exact ⟨a, h3, h4, fun i hi => k.cell (h5 i hi)⟩
theorem ent_sync : EntB 88 := ⟨Try.f88, by kernel_rfl, by kernel_rfl, by kernel_rfl⟩
theorem ent_lose : EntB 86 := ⟨Try.f86, by kernel_rfl, by kernel_rfl, by kernel_rfl⟩
theorem ent_put : EntB 83 := ⟨Try.f83, by kernel_rfl, by kernel_rfl, by kernel_rfl⟩
theorem st_sync (w : World) {P : Nat → Nat → Int} {m : Nat} {Q : Nat → Ed} (hm : m ≤ 200) (hq : ∀ j, j < m → 0 ≤ (Q j).b ∧ (Q j).b < 258) (Q' : Nat → Ed) : StepAt w 88 #[] true P m Q (stl P Q m) 0 Q' := by
  refine ⟨ent_sync, fun w2 dv vw W k h => ?_⟩
  refine (im_sync1 W h hm hq Q').mono ?_
  rintro e w' ⟨rfl, hD⟩
  exact ⟨rfl, hD.kb, fun _ => ⟨_, hD⟩⟩
set_option maxHeartbeats 4000000 in
theorem im_losing (vk : Value) (p : Option Addr) (n c : Nat) (w : World) : Calls Try.prog 57 #[.slice p n c] w fun e w' => e = .returned (.func (.func 86) #[] #[.pointer (some ⟨w.heap.size, 0, none⟩)]) ∧ w' = w.alloc (.cells #[.slice p n c] 39) := by
  go_enter Try.func57, Try.ntmps57
  go_wp2_with fail
  go_ret
  exact ⟨rfl, rfl⟩
set_option maxHeartbeats 4000000 in
theorem im_putting (b : Int) (p : Option Addr) (n c : Nat) (w : World) : Calls Try.prog 49 #[.int .i64 b, .slice p n c] w fun e w' => e = .returned (.func (.func 83) #[] #[.pointer (some ⟨w.heap.size, 0, none⟩), .pointer (some ⟨w.heap.size + 1, 0, none⟩)]) ∧ w' = (w.alloc (.cells #[.int .i64 b] 3)).alloc (.cells #[.slice p n c] 26) := by
  go_enter Try.func49, Try.ntmps49
  go_wp2_with fail
  go_ret
  exact ⟨rfl, rfl⟩
set_option maxHeartbeats 4000000 in
theorem im_lose1 {w0 : World} {dv bx : Nat} {P : Nat → Nat → Int} {m nk : Nat} {Q : Nat → Ed} {vw vk : Value} {kk : Nat → Bool} (kp : Nat → Bool) (w : World) (h : Dr w0 dv P m Q vw w) (hm : m ≤ 200) (hb : w.cell? ⟨bx, 0, none⟩ = some vk) (hk : RowV w vk nk (fun i => .bool (kk i))) (hnk : nk ≤ 1048576) (hkp : ∀ j, j < m → kp j = (decide (j < nk) && kk j)) :
    Calls Try.prog 86 #[.pointer (some ⟨dv, 0, none⟩), .pointer (some ⟨bx, 0, none⟩)] w fun e w' => e = .returned (.bool true) ∧ ∃ vw', Dr w0 dv P (kl Q kp m).length (rw8 (kl Q kp m)) vw' w' := by
  have HS := im_lose kp w h hm hk hnk hkp
  obtain ⟨pk, ck, rfl, -⟩ := id hk
  clear h hm hk hkp
  go_enter Try.func86, Try.ntmps86
  go_wp2_with fail
  refine HS.mono ?_
  rintro e w1 ⟨rfl, hD⟩
  have HD : Hid (∃ vw', Dr w0 dv P (kl Q kp m).length (rw8 (kl Q kp m)) vw' w1) := hD
  clear HS hD hb
  go_wp2_with fail
  go_ret
  exact ⟨rfl, HD⟩
theorem st_lose (w : World) {bx nk : Nat} {vk : Value} {kk : Nat → Bool} (kp : Nat → Bool) {P : Nat → Nat → Int} {m : Nat} {Q : Nat → Ed} (hm : m ≤ 200) (hb : w.cell? ⟨bx, 0, none⟩ = some vk) (hk : RowV w vk nk (fun i => .bool (kk i))) (hnk : nk ≤ 1048576) (hkp : ∀ j, j < m → kp j = (decide (j < nk) && kk j)) : StepAt w 86 #[.pointer (some ⟨bx, 0, none⟩)] true P m Q P (kl Q kp m).length (rw8 (kl Q kp m)) := by
  refine ⟨ent_lose, fun w2 dv vw W k h => ?_⟩
  have kW := k.trans h.kb
  refine (im_lose1 kp W h hm (kW.cell hb) (rowv_keep hk kW) hnk hkp).mono ?_
  rintro e w' ⟨rfl, vw', hD⟩
  exact ⟨rfl, hD.kb, fun _ => ⟨_, hD⟩⟩
set_option maxHeartbeats 8000000 in
theorem im_put_no {w0 : World} {dv : Nat} {P : Nat → Nat → Int} {m : Nat} {Q : Nat → Ed} {vw : Value} (b : Int) (p : Option Addr) (c q : Nat) (hc : (c : Int) ≤ 1048576) (w : World) (h : Dr w0 dv P m Q vw w) (hno : ¬ Wok b c ∨ m = 200) :
    Calls Try.prog 84 #[.pointer (some ⟨dv, 0, none⟩), .int .i64 b, .slice p c q] w fun e w' => e = .returned (.bool false) ∧ w' = w := by
  obtain ⟨pv, cv, rfl⟩ := h.shape
  have HIW := im_iswrite b (p := p) (c := c) (q := q) hc w
  have c0 := h.wt
  clear h
  by_cases hok : Wok b c
  · obtain rfl : m = 200 := hno.resolve_left (fun h => h hok)
    rw [dc_t hok] at HIW
    clear hok hno hc
    go_enter Try.func84, Try.ntmps84
    go_wp2_with fail
    refine HIW.mono ?_
    rintro e w1 ⟨rfl, rfl⟩
    clear HIW
    go_wp2_with fail
    go_ret
    exact ⟨rfl, rfl⟩
  · rw [dc_f hok] at HIW
    clear hok hno hc c0
    go_enter Try.func84, Try.ntmps84
    go_wp2_with fail
    refine HIW.mono ?_
    rintro e w1 ⟨rfl, rfl⟩
    clear HIW
    go_wp2_with fail
    go_ret
    exact ⟨rfl, rfl⟩
set_option maxHeartbeats 4000000 in
theorem im_put1 {dv b1 b2 : Nat} {R : World → Prop} {ok : Bool} (b : Int) (p : Option Addr) (c q : Nat) (w : World) (h1 : w.cell? ⟨b1, 0, none⟩ = some (.int .i64 b)) (h2 : w.cell? ⟨b2, 0, none⟩ = some (.slice p c q)) (HS : Calls Try.prog 84 #[.pointer (some ⟨dv, 0, none⟩), .int .i64 b, .slice p c q] w fun e w' => e = .returned (.bool ok) ∧ R w') :
    Calls Try.prog 83 #[.pointer (some ⟨dv, 0, none⟩), .pointer (some ⟨b1, 0, none⟩), .pointer (some ⟨b2, 0, none⟩)] w fun e w' => e = .returned (.bool ok) ∧ R w' := by
  go_enter Try.func83, Try.ntmps83
  go_wp2_with fail
  refine HS.mono ?_
  rintro e w1 ⟨rfl, hD⟩
  have HD : Hid (R w1) := hD
  clear HS hD h1 h2
  go_wp2_with fail
  go_ret
  exact ⟨rfl, HD⟩
theorem st_put_yes (w : World) {b1 b2 : Nat} (b : Int) {va : Value} {A : Nat → Int} {P : Nat → Nat → Int} {m : Nat} {Q : Nat → Ed} (hm : m < 200) (h1 : w.cell? ⟨b1, 0, none⟩ = some (.int .i64 b)) (h2 : w.cell? ⟨b2, 0, none⟩ = some va) (ha : RowV w va 64 (fun i => .int .u8 (A i))) (hb : 0 ≤ b ∧ b < 258) : StepAt w 83 #[.pointer (some ⟨b1, 0, none⟩), .pointer (some ⟨b2, 0, none⟩)] true P m Q P (m + 1) (fun j => if j = m then ⟨false, b, 64, A⟩ else Q j) := by
  refine ⟨ent_put, fun w2 dv vw W k h => ?_⟩
  have kW := k.trans h.kb
  obtain ⟨pa, ca, rfl, -⟩ := id ha
  refine (im_put1 b pa 64 ca W (kW.cell h1) (kW.cell h2) (im_put_yes b W h (rowv_keep ha kW) hb hm)).mono ?_
  rintro e w' ⟨rfl, vw', hD⟩
  exact ⟨rfl, hD.kb, fun _ => ⟨_, hD⟩⟩
theorem st_put_no (w : World) {b1 b2 : Nat} (b : Int) (p : Option Addr) (c q : Nat) {P : Nat → Nat → Int} {m : Nat} {Q : Nat → Ed} (hc : (c : Int) ≤ 1048576) (h1 : w.cell? ⟨b1, 0, none⟩ = some (.int .i64 b)) (h2 : w.cell? ⟨b2, 0, none⟩ = some (.slice p c q)) (hno : ¬ Wok b c ∨ m = 200) : StepAt w 83 #[.pointer (some ⟨b1, 0, none⟩), .pointer (some ⟨b2, 0, none⟩)] false P m Q P m Q := by
  refine ⟨ent_put, fun w2 dv vw W k h => ?_⟩
  have kW := k.trans h.kb
  refine (im_put1 b p c q W (kW.cell h1) (kW.cell h2) (im_put_no b p c q hc W h hno)).mono ?_
  rintro e w' ⟨rfl, rfl⟩
  exact ⟨rfl, h.kb, fun h => by cases h⟩
/-- the two steps of a crash -/
def fC : Nat → FuncId := fun i => if i = 0 then 86 else 88
def cC (bx : Nat) : Nat → Array Value := fun i => if i = 0 then #[.pointer (some ⟨bx, 0, none⟩)] else #[]
theorem im_behind_crash {v1 v2 vs vk : Value} {D : Dd} {bx nk : Nat} {kk : Nat → Bool} (kp : Nat → Bool) (w : World) (ha : RowD 0 w v1 v2 D) (hd : BdD D) (hok : Dok D) (hb : w.cell? ⟨bx, 0, none⟩ = some vk) (hk : RowV w vk nk (fun i => .bool (kk i))) (hnk : nk ≤ 1048576) (hkp : ∀ j, j < D.m → kp j = (decide (j < nk) && kk j)) (hs : RowV w vs 2 (fun i => .func (.func (fC i)) #[] (cC bx i))) :
    Calls Try.prog 48 #[.agg #[v1, v2], vs] w fun e w' => ∃ u1 u2, e = .returned (.agg #[u1, u2]) ∧ OwD w.heap.size w'.heap.size w' u1 u2 ⟨258, pE (stk (dpg D) D.Q kp D.m), 0, fun _ => zE⟩ ∧ Kb 0 w w' := by
  have hm : D.m ≤ 200 := hok.2.1
  have hl := kl_len D.Q kp D.m
  refine im_behind_yes (f := fC) (cs := cC bx) (P := fun i => if i ≤ 1 then dpg D else (stk (dpg D) D.Q kp D.m)) (m := fun i => if i = 0 then D.m else if i = 1 then (kl D.Q kp D.m).length else 0) (Q := fun i => if i = 0 then D.Q else if i = 1 then rw8 (kl D.Q kp D.m) else fun _ => zE) w ha hd hok 2 (by decide) (fun w2 dv vw wr k h => im_disk wr h (Nat.zero_le _)) ⟨rfl, rfl, rfl⟩ hs (fun i hi => ?_)
  obtain rfl | rfl : i = 0 ∨ i = 1 := by omega
  · exact st_lose w kp hm hb hk hnk hkp
  · have := st_sync w (P := dpg D) (m := (kl D.Q kp D.m).length) (Q := rw8 (kl D.Q kp D.m)) (by omega) (fun j hj => by
      have hmem : rw8 (kl D.Q kp D.m) j ∈ kl D.Q kp D.m := by
        unfold rw8
        rw [List.getD_eq_getElem?_getD, List.getElem?_eq_getElem hj]
        exact List.getElem_mem hj
      obtain ⟨j', hj', e⟩ := kl_mem D.Q kp D.m _ hmem
      rw [e]
      exact ⟨(hok.2.2.2 j' hj').1, (hok.2.2.2 j' hj').2.1⟩) (fun _ => zE)
    rw [stl_kl] at this
    exact this
end Go.Proofs.Ytiojjejphdhpeaa.Fo
