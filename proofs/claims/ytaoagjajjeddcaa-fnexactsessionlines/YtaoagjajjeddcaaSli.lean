import Derived.Test.YtaoagjajjeddcaaSlh
namespace Go.Proofs.Ytaoagjajjeddcaa.Fo
open Go.ChangeShapes Go.WideShapes Go.ChangeAt Go.RowKit
set_option linter.unusedVariables false
set_option maxRecDepth 100000
set_option maxHeartbeats 4000000 in
theorem mark_bools {v : Value} {g n : Nat} {A : Nat → Bool} (w : World) (k : Int) (ha : OwnR w v g n (fun i => .bool (A i))) (hn : n ≤ 1048576) (hk0 : 0 ≤ k) (hk : k ≤ 100000000) :
    Calls Try.prog 35 #[v, .int .i64 k] w fun e w' => e = .returned (.int .i64 (k + (n : Int))) ∧ Kq (fun j => 0 < n ∧ j = g) w w' ∧ OwnR w' v g n (fun i => .bool ((k + (i : Int)) % 3 == 0)) := by
  obtain ⟨pa, ca, rfl, ha2⟩ := ha.sl
  by_cases h0 : n = 0
  · subst h0
    go_enter Try.func35, Try.ntmps35
    go_wp2_with fail
    refine wp_loop_rounds 1 ?_
    rw [rounds_succ]
    go_wp2_with fail
    go_ret
    exact ⟨by simp, Kq.refl _ _, ⟨⟨pa, ca, rfl, ha2⟩, fun i hi => by omega, fun f => by omega⟩⟩
  · obtain ⟨rfl, hca⟩ := ha2 (by omega)
    have HI0 : Hid (MkR w g n (fun i => .bool (A i)) (fun i => .bool ((k + (i : Int)) % 3 == 0)) 0 w) := (⟨Kq.refl _ _, fun i hi => by omega, fun i _ hi => ha.cell i hi, ha.fz (by omega)⟩ : MkR w g n _ _ 0 w)
    have hnI : (n : Int) ≤ 1048576 := by omega
    have HN0 : Hid (0 < n) := (by omega : 0 < n)
    clear ha2 ha h0
    go_enter Try.func35, Try.ntmps35
    go_wp2_with fail
    go_loopw [1, 5] (fun s1 s5 wr => ∃ i : Nat, s5 = .int .i64 (i : Int) ∧ s1 = .int .i64 (k + (i : Int)) ∧ i ≤ n ∧ Hid (MkR w g n (fun i => .bool (A i)) (fun i => .bool ((k + (i : Int)) % 3 == 0)) i wr)) (fun _ s5 _ => n - (intOf s5).toNat)
    case atStart => exact ⟨0, rfl, by simp, Nat.zero_le _, HI0⟩
    case round =>
      clear HI0
      obtain ⟨i, rfl, rfl, hin, HI⟩ := hrel
      have hI := (show MkR w g n (fun i => .bool (A i)) (fun i => .bool ((k + (i : Int)) % 3 == 0)) i wr from HI)
      rcases Nat.lt_or_ge i n with hi | hi
      · have hiI : (i : Int) < (n : Int) := by omega
        obtain ⟨c, f, hM⟩ := hI.step hi (Below.refl _ _)
        have hx : k + (i : Int) ≤ 101048576 := by omega
        have hx0 : 0 ≤ k + (i : Int) := by omega
        have HM : Hid (MkR w g n (fun i => .bool (A i)) (fun i => .bool ((k + (i : Int)) % 3 == 0)) (i + 1) (wr.setCell ⟨g, i, none⟩ (.bool ((k + (i : Int)) % 3 == 0)))) := hM
        clear hM hI HI hin
        generalize A i = y at c
        have hxk : ∃ x : Int, x = k + (i : Int) := ⟨_, rfl⟩
        obtain ⟨x, hxk⟩ := hxk
        have HX : Hid (x = k + (i : Int)) := hxk
        rw [← hxk] at hx hx0 HM ⊢
        clear hxk
        have hmo : x.tmod 3 = x % 3 := Int.tmod_eq_emod_of_nonneg hx0
        go_wp2_with fail
        go_roundw
        case rel => exact ⟨i + 1, by go_num, by rw [show x = k + (i : Int) from HX]; exact congrArg (Value.int .i64) (by omega), by omega, HM⟩
        case measure => simp [intOf]; omega
      · obtain rfl : i = n := by omega
        have HE : Hid (MkR w g i (fun i => .bool (A i)) (fun i => .bool ((k + (i : Int)) % 3 == 0)) i wr) := hI
        clear HI hI
        go_wp2_with fail
        go_ret
        exact ⟨rfl, HE.kq.mono (fun j e => ⟨HN0, e⟩), ⟨⟨_, ca, rfl, fun _ => ⟨rfl, hca⟩⟩, fun j hj => HE.don j hj, fun _ j => HE.fz j⟩⟩

theorem mark_textI {k : Int} (h1 : 1 ≤ k) (h2 : k ≤ 1000000000) (W : World) : Calls Try.prog 34 #[.int .i64 k] W fun e w' => (∃ t, e = .returned (.string t)) ∧ Below W.heap.size W w' := by
  obtain ⟨n, rfl⟩ : ∃ n : Nat, k = (n : Int) := ⟨k.toNat, by omega⟩
  exact (mark_text n (by omega) h2 W).mono (fun e w' ⟨h, b⟩ => ⟨⟨_, h⟩, b⟩)
/-- events being marked: those from i on are as before -/
structure MX (L H : Nat) (w : World) (n : Nat) (F : Nat → Ev) (g : Nat) (V : Nat → Value) (G : Nat → Nat) (i : Nat) (W : World) : Prop where
  kq : Kq (fun q => L ≤ q ∧ q < H) w W
  hs : H ≤ w.heap.size
  bg : L ≤ g ∧ g < H
  ex : ∀ j, i ≤ j → j < n → ∀ t, t < 10 → ∃ u, W.cell? ⟨g, j * 10 + t, none⟩ = some u
  la : ∀ j, i ≤ j → j < n → W.cell? ⟨g, j * 10 + 9, none⟩ = some (V j)
  fz : ∀ j, W.frozen? ⟨g, j, none⟩ = false
  ow : ∀ j, i ≤ j → j < n → OwnR W (V j) (G j) (F j).q (evb (F j))
  lo : ∀ j, j < n → L ≤ G j ∧ G j < H ∧ G j ≠ g
  di : ∀ j j', j < n → j' < n → j ≠ j' → G j ≠ G j'
theorem MX.start {L H : Nat} {w : World} {v : Value} {n : Nat} {F : Nat → Ev} {g : Nat} {V : Nat → Value} {G : Nat → Nat} (h : OwX L H w v n F g V G) (hH : H ≤ w.heap.size) : MX L H w n F g V G 0 w :=
  ⟨Kq.refl _ _, hH, h.bg, fun j _ hj t ht => ⟨_, (h.ce j hj t ht).trans (List.getElem?_eq_getElem (show t < (evl (F j) (V j)).length from ht))⟩, fun j _ hj => h.ce j hj 9 (by omega), h.fz, fun j _ hj => h.ow j hj, h.lo, h.di⟩
theorem MX.set {L H : Nat} {w W : World} {n : Nat} {F : Nat → Ev} {g : Nat} {V : Nat → Value} {G : Nat → Nat} {i : Nat} (h : MX L H w n F g V G i W) (hi : i < n) (t : Nat) (ht : t < 9) (u : Value) : MX L H w n F g V G i (W.setCell ⟨g, i * 10 + t, none⟩ u) := by
  have hb : ∀ q, q ≠ g → (W.setCell ⟨g, i * 10 + t, none⟩ u).heap[q]? = W.heap[q]? := fun q hq => Below.heap_setCell _ _ _ _ hq
  have hz : (W.setCell ⟨g, i * 10 + t, none⟩ u).heap.size = W.heap.size := by simp
  obtain ⟨u0, hu0⟩ := h.ex i (Nat.le_refl _) hi t (by omega)
  refine ⟨⟨h.kq.os, h.kq.tape, h.kq.output, by rw [hz]; exact h.kq.size, fun q h1 h2 => ?_⟩, h.hs, h.bg, fun j h1 h2 t' ht' => ?_, fun j h1 h2 => ?_, fun j => by rw [World.frozen?_setCell]; exact h.fz j, fun j h1 h2 => own_kb (h.ow j h1 h2) (fun _ => hb _ (h.lo j h2).2.2), h.lo, h.di⟩
  · rw [hb q (fun e => h2 (by subst e; exact h.bg))]
    exact h.kq.block q h1 h2
  · by_cases e : j * 10 + t' = i * 10 + t
    · rw [e]; exact ⟨_, set_eq _ _ _ _ _ hu0⟩
    · rw [set_ne _ _ _ _ _ e]; exact h.ex j h1 h2 t' ht'
  · rw [set_ne _ _ _ _ _ (by omega)]; exact h.la j h1 h2
theorem MX.below {L H : Nat} {w W W' : World} {n : Nat} {F : Nat → Ev} {g : Nat} {V : Nat → Value} {G : Nat → Nat} {i : Nat} (h : MX L H w n F g V G i W) (b : Below W.heap.size W W') : MX L H w n F g V G i W' := by
  have hz := h.kq.size
  have hg : W'.heap[g]? = W.heap[g]? := b.block g (by have := h.bg; have := h.hs; omega)
  exact ⟨⟨b.os.trans h.kq.os, b.tape.trans h.kq.tape, b.output.trans h.kq.output, Nat.le_trans hz b.size, fun q h1 h2 => (b.block q (by omega)).trans (h.kq.block q h1 h2)⟩, h.hs, h.bg, fun j h1 h2 t ht => by rw [World.cell?_of_block hg]; exact h.ex j h1 h2 t ht, fun j h1 h2 => (World.cell?_of_block hg).trans (h.la j h1 h2), fun j => (World.frozen?_of_block hg).trans (h.fz j), fun j h1 h2 => own_kb (h.ow j h1 h2) (fun _ => b.block _ (by have := h.lo j h2; have := h.hs; omega)), h.lo, h.di⟩
theorem MX.next {L H : Nat} {w W W' : World} {n : Nat} {F : Nat → Ev} {g : Nat} {V : Nat → Value} {G : Nat → Nat} {i : Nat} (h : MX L H w n F g V G i W) (hi : i < n) {m : Nat} (k : Kq (fun q => 0 < m ∧ q = G i) W W') : MX L H w n F g V G (i + 1) W' := by
  have hz := h.kq.size
  have hlo := h.lo i hi
  have hH := h.hs
  have hg : W'.heap[g]? = W.heap[g]? := k.block g (by have := h.bg; omega) (fun e => hlo.2.2 e.2.symm)
  refine ⟨⟨k.os.trans h.kq.os, k.tape.trans h.kq.tape, k.output.trans h.kq.output, Nat.le_trans hz k.size, fun q h1 h2 => (k.block q (by omega) (fun e => h2 (by have := e.2; omega))).trans (h.kq.block q h1 h2)⟩, h.hs, h.bg, fun j h1 h2 t ht => by rw [World.cell?_of_block hg]; exact h.ex j (by omega) h2 t ht, fun j h1 h2 => (World.cell?_of_block hg).trans (h.la j (by omega) h2), fun j => (World.frozen?_of_block hg).trans (h.fz j), fun j h1 h2 => own_kb (h.ow j (by omega) h2) (fun _ => k.block _ (by have := h.lo j h2; omega) (fun e => h.di j i h2 hi (by omega) e.2)), h.lo, h.di⟩
end Go.Proofs.Ytaoagjajjeddcaa.Fo
