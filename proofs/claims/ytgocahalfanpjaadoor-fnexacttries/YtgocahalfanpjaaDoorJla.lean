import Derived.Test.YtgocahalfanpjaaDoorBab
import Derived.Test.YtgocahalfanpjaaDoorBac
import Derived.Deep.RegionHeldLaw
import Derived.Deep.RegionHeld3
namespace Go.Proofs.YtgocahalfanpjaaDoor.Fo
open Go.ChangeShapes Go.WideShapes Go.ChangeAt Go.RowKit
set_option linter.unusedVariables false
set_option maxRecDepth 100000
/-- the text of mark number k -/
def mtx (k : Nat) : ByteArray := ⟨#[109]⟩ ++ mtl k ⟨#[]⟩
theorem mark_tx (k : Nat) (x : Int) (hx : x = (k : Int)) (hk : 1 ≤ k) (hk2 : (k : Int) ≤ 1000000000) (w : World) : Calls Tryd.prog 25 #[.int .i64 x] w fun e w' => e = .returned (.string (mtx k)) ∧ Below w.heap.size w w' := by
  subst hx
  exact mark_text k hk hk2 w
set_option maxRecDepth 100000 in
set_option maxHeartbeats 4000000 in
theorem mark_strs {v : Value} {g n : Nat} {A : Nat → ByteArray} (w : World) (k : Nat) (ha : OwnR w v g n (fun i => .string (A i))) (hn : n ≤ 60000000) (hk0 : 1 ≤ k) (hk : k ≤ 100000000) :
    Calls Tryd.prog 13 #[v, .int .i64 (k : Int)] w fun e w' => e = .returned (.int .i64 ((k : Int) + (n : Int))) ∧ Kq (fun j => 0 < n ∧ j = g) w w' ∧ OwnR w' v g n (fun i => .string (mtx (k + i))) := by
  obtain ⟨pa, ca, rfl, ha2⟩ := ha.sl
  by_cases h0 : n = 0
  · subst h0
    go_enter Tryd.func13, Tryd.ntmps13
    go_wp2_with fail
    refine wp_loop_rounds 1 ?_
    rw [rounds_succ]
    go_wp2_with fail
    go_ret
    exact ⟨by simp, Kq.refl _ _, ⟨⟨pa, ca, rfl, ha2⟩, fun i hi => by omega, fun f => by omega⟩⟩
  · obtain ⟨rfl, hca⟩ := ha2 (by omega)
    have HI0 : Hid (MkR w g n (fun i => .string (A i)) (fun i => .string (mtx (k + i))) 0 w) := (⟨Kq.refl _ _, fun i hi => by omega, fun i _ hi => ha.cell i hi, ha.fz (by omega)⟩ : MkR w g n _ _ 0 w)
    have hnI : (n : Int) ≤ 60000000 := by omega
    have hkI : (k : Int) ≤ 100000000 := by omega
    have hkI0 : (1 : Int) ≤ (k : Int) := by omega
    have HN0 : Hid (0 < n) := (by omega : 0 < n)
    clear ha2 ha h0 hk hk0 hn
    go_enter Tryd.func13, Tryd.ntmps13
    go_wp2_with fail
    go_loopw [1, 5] (fun s1 s5 wr => ∃ i : Nat, s5 = .int .i64 (i : Int) ∧ s1 = .int .i64 ((k : Int) + (i : Int)) ∧ i ≤ n ∧ Hid (MkR w g n (fun i => .string (A i)) (fun i => .string (mtx (k + i))) i wr)) (fun _ s5 _ => n - (intOf s5).toNat)
    case atStart => exact ⟨0, rfl, by simp, Nat.zero_le _, HI0⟩
    case round =>
      clear HI0
      obtain ⟨i, rfl, rfl, hin, HI⟩ := hrel
      have hI := (show MkR w g n (fun i => .string (A i)) (fun i => .string (mtx (k + i))) i wr from HI)
      rcases Nat.lt_or_ge i n with hi | hi
      · have hiI : (i : Int) < (n : Int) := by omega
        have HST : Hid (∀ w6, Below wr.heap.size wr w6 → w6.cell? ⟨g, i, none⟩ = some (.string (A i)) ∧ w6.frozen? ⟨g, i, none⟩ = false ∧ MkR w g n (fun i => .string (A i)) (fun i => .string (mtx (k + i))) (i + 1) (w6.setCell ⟨g, i, none⟩ (.string (mtx (k + i))))) := (fun w6 hb => hI.step hi hb : ∀ w6, _)
        obtain ⟨x, hxk⟩ : ∃ x : Int, x = (k : Int) + (i : Int) := ⟨_, rfl⟩
        have hmt := fun W => mark_tx (k + i) x (by omega) (by omega) (by omega) W
        have hx : x ≤ 160000000 := by omega
        have hx0 : 0 ≤ x := by omega
        have HX : Hid (x = (k : Int) + (i : Int)) := hxk
        rw [← hxk]
        clear hI HI hin hxk
        generalize hX : mtx (k + i) = X at hmt
        have HMX : Hid (mtx (k + i) = X) := hX
        clear hX
        go_wp2_with fail
        refine (hmt _).mono ?_
        rintro e w6 ⟨rfl, hb6⟩
        obtain ⟨c5, f5, hM⟩ := (show ∀ w6, Below wr.heap.size wr w6 → w6.cell? ⟨g, i, none⟩ = some (.string (A i)) ∧ w6.frozen? ⟨g, i, none⟩ = false ∧ MkR w g n (fun i => .string (A i)) (fun i => .string (mtx (k + i))) (i + 1) (w6.setCell ⟨g, i, none⟩ (.string (mtx (k + i)))) from HST) w6 hb6
        rw [show mtx (k + i) = X from HMX] at hM
        have HM : Hid (MkR w g n (fun i => .string (A i)) (fun i => .string (mtx (k + i))) (i + 1) (w6.setCell ⟨g, i, none⟩ (.string X))) := hM
        clear hM HST hb6 hmt HMX
        generalize A i = y at c5
        go_wp2_with fail
        go_roundw
        case rel => exact ⟨i + 1, by go_num, by rw [show x = (k : Int) + (i : Int) from HX]; exact congrArg (Value.int .i64) (by omega), by omega, HM⟩
        case measure => simp [intOf]; omega
      · obtain rfl : i = n := by omega
        have HE : Hid (MkR w g i (fun i => .string (A i)) (fun i => .string (mtx (k + i))) i wr) := hI
        clear HI hI
        go_wp2_with fail
        go_ret
        exact ⟨rfl, HE.kq.mono (fun j e => ⟨HN0, e⟩), ⟨⟨_, ca, rfl, fun _ => ⟨rfl, hca⟩⟩, fun j hj => HE.don j hj, fun _ j => HE.fz j⟩⟩
set_option maxRecDepth 100000 in
set_option maxHeartbeats 4000000 in
theorem held_strs {v : Value} {g n : Nat} (w : World) (k : Nat) (ha : OwnR w v g n (fun i => .string (mtx (k + i)))) (hn : n ≤ 60000000) (hk0 : 1 ≤ k) (hk : k ≤ 100000000) :
    Calls Tryd.prog 14 #[v, .int .i64 (k : Int)] w fun e w' => e = .returned (.int .i64 ((k : Int) + (n : Int))) ∧ Below w.heap.size w w' := by
  obtain ⟨pa, ca, rfl, ha2⟩ := ha.sl
  by_cases h0 : n = 0
  · subst h0
    go_enter Tryd.func14, Tryd.ntmps14
    go_wp2_with fail
    refine wp_loop_rounds 1 ?_
    rw [rounds_succ]
    go_wp2_with fail
    go_ret
    exact ⟨by simp, Below.refl _ _⟩
  · obtain ⟨rfl, hca⟩ := ha2 (by omega)
    have HR : Hid (∀ i, i < n → w.cell? ⟨g, i, none⟩ = some (.string (mtx (k + i)))) := ha.cell
    have hnI : (n : Int) ≤ 60000000 := by omega
    have hkI : (k : Int) ≤ 100000000 := by omega
    have hkI0 : (1 : Int) ≤ (k : Int) := by omega
    clear ha2 ha h0 hk hk0 hn
    go_enter Tryd.func14, Tryd.ntmps14
    go_wp2_with fail
    go_loopw [1, 5] (fun s1 s5 wr => ∃ i : Nat, s5 = .int .i64 (i : Int) ∧ s1 = .int .i64 ((k : Int) + (i : Int)) ∧ i ≤ n ∧ Hid (Below w.heap.size w wr)) (fun _ s5 _ => n - (intOf s5).toNat)
    case atStart => exact ⟨0, rfl, by simp, Nat.zero_le _, Below.refl _ _⟩
    case round =>
      obtain ⟨i, rfl, rfl, hin, HB⟩ := hrel
      rcases Nat.lt_or_ge i n with hi | hi
      · have hiI : (i : Int) < (n : Int) := by omega
        have ra := (show ∀ i, i < n → w.cell? ⟨g, i, none⟩ = some (.string (mtx (k + i))) from HR) i hi
        have hl := lt_of_cell ra
        have a5 : wr.cell? ⟨g, i, none⟩ = some (.string (mtx (k + i))) := (HB.cell hl).trans ra
        have hla := lt_of_cell a5
        obtain ⟨x, hxk⟩ : ∃ x : Int, x = (k : Int) + (i : Int) := ⟨_, rfl⟩
        have hmt := fun W => mark_tx (k + i) x (by omega) (by omega) (by omega) W
        have hx : x ≤ 160000000 := by omega
        have hx0 : 0 ≤ x := by omega
        have HX : Hid (x = (k : Int) + (i : Int)) := hxk
        rw [← hxk]
        generalize mtx (k + i) = X at hmt a5
        have HKEEP : Hid (∀ (W0 W' : World), Below W0.heap.size W0 W' → W0.heap = wr.heap → W'.cell? ⟨g, i, none⟩ = some (.string X)) := (fun W0 W' hb he => by
          rw [← a5]
          exact World.cell?_of_block (by rw [hb.block g (by rw [he]; exact hla), he]) : ∀ (W0 W' : World), Below W0.heap.size W0 W' → W0.heap = wr.heap → W'.cell? ⟨g, i, none⟩ = some (.string X))
        have HB2 : Hid (∀ (W0 W' : World), Below W0.heap.size W0 W' → (Below w.heap.size w wr → Below w.heap.size w W0) → Below w.heap.size w W') := (fun W0 W' h1 h2 => (h2 HB).trans (h1.mono (h2 HB).size) : ∀ (W0 W' : World), Below W0.heap.size W0 W' → (Below w.heap.size w wr → Below w.heap.size w W0) → Below w.heap.size w W')
        clear ra HB hin HR hla hl hxk
        go_wp2_with fail
        go_region_held_law (fun W' => W'.cell? ⟨g, i, none⟩ = some (.string X)) (first | exact a5 | exact (show ∀ (W0 W' : World), _ from HKEEP) _ _ hb5 rfl) ((go_at_call 25; refine (hmt _).mono ?_; rintro e w5 ⟨rfl, hb5⟩))
        all_goals
          have HB5 : Hid (Below w.heap.size w w5) := (show ∀ (W0 W' : World), Below W0.heap.size W0 W' → (Below w.heap.size w wr → Below w.heap.size w W0) → Below w.heap.size w W' from HB2) _ _ hb5 (fun h => ⟨h.os, h.tape, h.output, h.size, h.block⟩)
          clear HB2 HKEEP hb5 a5 hmt
          go_wp2_with fail
          go_roundw
          case rel => exact ⟨i + 1, by go_num, by rw [show x = (k : Int) + (i : Int) from HX]; exact congrArg (Value.int .i64) (by omega), by omega, HB5⟩
          case measure => simp [intOf]; omega
      · obtain rfl : i = n := by omega
        clear HR
        go_wp2_with fail
        go_ret
        exact ⟨rfl, HB⟩
end Go.Proofs.YtgocahalfanpjaaDoor.Fo
