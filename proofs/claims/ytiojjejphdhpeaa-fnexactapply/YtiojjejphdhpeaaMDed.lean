import Derived.Test.YtiojjejphdhpeaaMDeb
import Derived.Test.YtiojjejphdhpeaaMDde
namespace Go.Proofs.Ytiojjejphdhpeaa.Fo
open Go.ChangeShapes Go.WideShapes Go.ChangeAt Go.RowKit
set_option linter.unusedVariables false
set_option maxRecDepth 100000
set_option linter.unusedSimpArgs false
/-- the pages behind those of the first k writes that are kept -/
def stk (P : Nat → Nat → Int) (Q : Nat → Ed) (kp : Nat → Bool) : Nat → Nat → Nat → Int
  | 0 => P
  | k + 1 => if kp k = true then pup (stk P Q kp k) (Q k).b.toNat (Q k).A else stk P Q kp k
theorem stk_all (P : Nat → Nat → Int) (Q : Nat → Ed) (kp : Nat → Bool) : ∀ m, (∀ j, j < m → kp j = true) → stk P Q kp m = stl P Q m
  | 0, _ => rfl
  | m + 1, h => by rw [stk, stl, if_pos (h m (by omega)), stk_all P Q kp m (fun j hj => h j (by omega))]
theorem OwE.put {L : Nat} {W W6 : World} {v : Value} {n : Nat} {F : Nat → Ed} {g : Nat} {V : Nat → Value} {G : Nat → Nat} {b : Nat} {x : Ed} {vx : Value} {gx : Nat} (h : OwE 1 L W.heap.size W v n F g V G) (hb : b < n) (k6 : Kb 0 W W6) (ox : OwnR W6 vx gx x.c (ub x.A)) (lx : 0 < x.c → W.heap.size ≤ gx ∧ gx < W6.heap.size) :
    (∃ u, W6.cell? ⟨g, b, none⟩ = some u) ∧ W6.frozen? ⟨g, b, none⟩ = false ∧ OwE 1 L (W6.setCell ⟨g, b, none⟩ vx).heap.size (W6.setCell ⟨g, b, none⟩ vx) v n (fun i => if i = b then x else F i) g (fun i => if i = b then vx else V i) (fun i => if i = b then gx else G i) := by
  have bg := h.bg (by omega)
  have z6 := k6.size
  have bl : ∀ q, q < W.heap.size → q ≠ g → (W6.setCell ⟨g, b, none⟩ vx).heap[q]? = W.heap[q]? := fun q h1 h2 => (Below.heap_setCell _ _ _ _ h2).trans (k6.block q (Nat.zero_le _) h1)
  have cell6 : ∀ j, j < n → W6.cell? ⟨g, j, none⟩ = some (V j) := fun j hj => by
    have := h.cs j hj 0 (by omega)
    rw [Nat.mul_one, Nat.add_zero] at this
    exact k6.cell (this.trans rfl)
  have fz6 : ∀ j, W6.frozen? ⟨g, j, none⟩ = false := fun j => (World.frozen?_of_block (k6.block g (Nat.zero_le _) bg.2)).trans (h.fz (by omega) j)
  have zz : (W6.setCell ⟨g, b, none⟩ vx).heap.size = W6.heap.size := World.size_setCell _ _ _
  refine ⟨⟨_, cell6 b hb⟩, fz6 b, h.sl, fun _ => ⟨bg.1, by rw [zz]; omega⟩, fun j hj t ht => ?_, fun _ j => ?_, fun i hi => ?_, fun i hi hc => ?_, fun i j hi hj hij hci hcj => ?_⟩
  · obtain rfl : t = 0 := by omega
    rw [Nat.mul_one, Nat.add_zero]
    show _ = (hdl 1 (if j = b then x else F j) ++ [if j = b then vx else V j])[0]?
    by_cases e : j = b
    · subst e
      rw [if_pos rfl, if_pos rfl, set_eq _ _ _ _ _ (cell6 j hb)]
      rfl
    · rw [if_neg e, if_neg e, set_ne _ _ _ _ _ e, cell6 j hj]
      rfl
  · rw [World.frozen?_setCell]
    exact fz6 j
  · by_cases e : i = b
    · subst e
      rw [if_pos rfl, if_pos rfl, if_pos rfl]
      exact ox.kb (fun hc => Below.heap_setCell _ _ _ _ (show gx ≠ g by have := lx (by omega); omega))
    · rw [if_neg e, if_neg e, if_neg e]
      refine (h.ow i hi).kb (fun hc => ?_)
      obtain ⟨q1, q2, q3⟩ := h.lo i hi (by omega)
      exact bl _ q2 q3
  · by_cases e : i = b
    · subst e
      rw [if_pos rfl] at hc ⊢
      have := lx hc
      rw [zz]
      omega
    · rw [if_neg e] at hc ⊢
      obtain ⟨q1, q2, q3⟩ := h.lo i hi hc
      rw [zz]
      exact ⟨q1, by omega, q3⟩
  · by_cases e : i = b
    · subst e
      rw [if_pos rfl] at hci ⊢
      rw [if_neg (fun q => hij q.symm)] at hcj ⊢
      have := lx hci
      have := (h.lo j hj hcj).2.1
      omega
    · rw [if_neg e] at hci ⊢
      by_cases e' : j = b
      · subst e'
        rw [if_pos rfl] at hcj ⊢
        have := lx hcj
        have := (h.lo i hi hci).2.1
        omega
      · rw [if_neg e'] at hcj ⊢
        exact h.di i j hi hj hij hci hcj
/-- a settling under way: the blocks at P5 hold these pages -/
def SI (L g P5 : Nat) (v : Value) (w0 : World) (P : Nat → Nat → Int) (wr : World) : Prop := (∃ V G, OwE 1 L wr.heap.size wr v 258 (pE P) g V G) ∧ wr.heap[P5]? = some (.cells #[v, .slice none 0 0] 30 (0, 0)) ∧ Kb 0 w0 wr ∧ w0.heap.size ≤ L ∧ w0.heap.size ≤ P5 ∧ P5 < wr.heap.size ∧ P5 ≠ g ∧ L ≤ g
theorem SI.keep {L g P5 : Nat} {v : Value} {w0 : World} {P : Nat → Nat → Int} {wr W : World} (h : SI L g P5 v w0 P wr) (k : Kb 0 wr W) : SI L g P5 v w0 P W := by
  obtain ⟨⟨V, G, o⟩, d, kw, l1, l2, l3, l4, l5⟩ := h
  have := k.size
  exact ⟨⟨V, G, (o.block (fun q _ h2 => k.block q (Nat.zero_le _) h2)).wide (Nat.le_refl _) (by omega)⟩, (k.block _ (Nat.zero_le _) l3).trans d, kw.trans k, l1, l2, by omega, l4, l5⟩
theorem SI.put {L g P5 : Nat} {v : Value} {w0 : World} {P : Nat → Nat → Int} {W W6 : World} {b : Nat} {A : Nat → Int} {vx : Value} {gx : Nat} (h : SI L g P5 v w0 P W) (hb : b < 258) (k6 : Kb 0 W W6) (ox : OwnR W6 vx gx 64 (ub A)) (lx : W.heap.size ≤ gx ∧ gx < W6.heap.size) :
    ((∃ u, W6.cell? ⟨g, b, none⟩ = some u) ∧ W6.frozen? ⟨g, b, none⟩ = false) ∧ SI L g P5 v w0 (pup P b A) (W6.setCell ⟨g, b, none⟩ vx) := by
  obtain ⟨⟨V, G, o⟩, d, kw, l1, l2, l3, l4, l5⟩ := h
  obtain ⟨c1, f1, o1⟩ := o.put (x := ⟨false, 0, 64, A⟩) hb k6 ox (fun _ => lx)
  have e : (fun i => if i = b then (⟨false, 0, 64, A⟩ : Ed) else pE P i) = pE (pup P b A) := by
    funext i
    unfold pE pup
    by_cases q : i = b
    · rw [if_pos q, if_pos q]
    · rw [if_neg q, if_neg q]
  rw [e] at o1
  have z6 := k6.size
  refine ⟨⟨c1, f1⟩, ⟨_, _, o1⟩, ?_, (kw.trans k6).setCell _ (.inr (by show w0.heap.size ≤ g; omega)) _, l1, l2, by rw [World.size_setCell]; omega, l4, l5⟩
  rw [Below.heap_setCell _ _ _ _ (show P5 ≠ g from l4)]
  exact (k6.block _ (Nat.zero_le _) l3).trans d
end Go.Proofs.Ytiojjejphdhpeaa.Fo

namespace Go.Proofs.Ytiojjejphdhpeaa.Fo
open Go.ChangeShapes Go.WideShapes Go.ChangeAt Go.RowKit
set_option linter.unusedVariables false
set_option maxRecDepth 100000
set_option linter.unusedSimpArgs false
set_option maxHeartbeats 16000000 in
theorem sp_settle {v1 v2 vk : Value} {m nk : Nat} {B Q : Nat → Ed} {kk : Nat → Bool} (kp : Nat → Bool) (w : World) (ha : RowD 0 w v1 v2 ⟨258, B, m, Q⟩) (hd : BdD ⟨258, B, m, Q⟩) (hok : Dok ⟨258, B, m, Q⟩) (hk : RowV w vk nk (fun i => .bool (kk i))) (hnk : nk ≤ 1048576) (hkp : ∀ j, j < m → kp j = (decide (j < nk) && kk j)) (Q' : Nat → Ed) :
    Calls Try.prog 56 #[.agg #[v1, v2], vk] w fun e w' => ∃ u1 u2, e = .returned (.agg #[u1, u2]) ∧ OwD w.heap.size w'.heap.size w' u1 u2 ⟨258, pE (stk (fun i => (B i).A) Q kp m), 0, Q'⟩ ∧ Kb 0 w w' := by
  have hmm : m ≤ 200 := hok.2.1
  have hB64 : ∀ i, i < 258 → (B i).c = 64 := hok.2.2.1
  have hQ64 : ∀ i, i < m → Wok (Q i).b (Q i).c := hok.2.2.2
  obtain ⟨pk, ck, rfl, hk2⟩ := id hk
  have hnkI : (nk : Int) ≤ 1048576 := by omega
  obtain ⟨⟨p1, c1, rfl, ha1⟩, ⟨p2, c2, rfl, ha2⟩⟩ := id ha
  dsimp only at ha1 ha2
  obtain ⟨w1, hw1⟩ : ∃ w1, w1 = w.alloc (.cells #[.slice p1 258 c1, .slice p2 m c2] 30) := ⟨_, rfl⟩
  have k1 : Kb 0 w w1 := by rw [hw1]; exact kb_alloc _ _ _
  have b1 : w1.heap[w.heap.size]? = some (.cells #[.slice p1 258 c1, .slice p2 m c2] 30 (0, 0)) := by rw [hw1]; exact alloc_new _ _ _
  have z1 : w1.heap.size = w.heap.size + 1 := by rw [hw1]; exact World.size_alloc _ _
  obtain ⟨w2, hw2⟩ : ∃ w2, w2 = w1.alloc (.cells #[.slice none 0 0, .slice none 0 0] 30) := ⟨_, rfl⟩
  have k2 : Kb 0 w1 w2 := by rw [hw2]; exact kb_alloc _ _ _
  have b2 : w2.heap[w.heap.size + 1]? = some (.cells #[.slice none 0 0, .slice none 0 0] 30 (0, 0)) := by rw [hw2, ← z1]; exact alloc_new _ _ _
  have z2 : w2.heap.size = w.heap.size + 2 := by rw [hw2, World.size_alloc, z1]
  have b12 := (k2.block _ (Nat.zero_le _) (by omega)).trans b1
  have HC : Calls Try.prog 44 #[.agg #[.slice p1 258 c1, .slice p2 m c2]] w2 fun e w' => ∃ u1 u2, e = .returned (.agg #[u1, u2]) ∧ OwD w2.heap.size w'.heap.size w' u1 u2 ⟨258, B, m, Q⟩ ∧ Kb 0 w2 w' := sp_dcopy w2 (ha.keep (k1.trans k2)) hd
  have u0 : w2.cell? ⟨w.heap.size, 0, none⟩ = some (.slice p1 258 c1) := cell_of b12 rfl
  have u1 : w2.cell? ⟨w.heap.size, 1, none⟩ = some (.slice p2 m c2) := cell_of b12 rfl
  have HB : Hid (Kb 0 w w2 ∧ w2.heap[w.heap.size]? = some (.cells #[.slice p1 258 c1, .slice p2 m c2] 30 (0, 0)) ∧ w2.heap[w.heap.size + 1]? = some (.cells #[.slice none 0 0, .slice none 0 0] 30 (0, 0)) ∧ w2.heap.size = w.heap.size + 2) := (⟨k1.trans k2, b12, b2, z2⟩ : _ ∧ _)
  have HA2 : Hid (0 < m → ∃ a : Addr, p2 = some a ∧ m ≤ c2 ∧ ∀ i, i < m → ElC 2 0 w (a.add (i * 2)) (Q i) ∧ Wok (Q i).b (Q i).c) := (fun q => by obtain ⟨a, e1, e2, _, e3⟩ := ha2 q; exact ⟨a, e1, e2, fun i hi => ⟨e3 i hi, hQ64 i hi⟩⟩ : 0 < m → _)
  have HKK : Hid ((0 < nk → ∃ a : Addr, pk = some a ∧ nk ≤ ck ∧ ∀ i, i < nk → w.cell? (a.add i) = some (.bool (kk i))) ∧ ∀ j, j < m → kp j = (decide (j < nk) && kk j)) := (⟨hk2, hkp⟩ : _ ∧ _)
  have HB64 : Hid (∀ i, i < 258 → (B i).c = 64) := hB64
  have HW2 : Hid (w2 = (w.alloc (.cells #[.slice p1 258 c1, .slice p2 m c2] 30)).alloc (.cells #[.slice none 0 0, .slice none 0 0] 30)) := (by rw [hw2, hw1] : w2 = _)
  clear hw1 k1 b1 z1 hw2 k2 b2 z2 b12 ha hd hok hB64 hQ64 ha1 ha2 hk hk2 hkp hnk
  go_enter Try.func56, Try.ntmps56
  go_upto_region 1 with fail
  rw [← (show w2 = _ from HW2)]
  clear HW2
  go_wp2_with fail
  refine HC.mono ?_
  rintro e w3 ⟨y1, y2, rfl, o3, k3⟩
  clear HC u0 u1
  obtain ⟨M, g, V, G, g', V', G', o31, o32, l31, l32⟩ := o3
  obtain ⟨pu, cu, rfl, -⟩ := id o31.sl
  obtain ⟨pw, cw, rfl, -⟩ := id o32.sl
  dsimp only at o31 o32
  obtain ⟨kw2, b02, b12, z2⟩ := (show _ ∧ _ ∧ _ ∧ _ from HB)
  obtain ⟨P5, hP5⟩ : ∃ P5, P5 = w3.heap.size := ⟨_, rfl⟩
  obtain ⟨w4, hw4⟩ : ∃ w4, w4 = w3.alloc (.cells #[.slice pu 258 cu, .slice pw m cw] 30) := ⟨_, rfl⟩
  have k34 : Kb 0 w3 w4 := by rw [hw4]; exact kb_alloc _ _ _
  have b4 : w4.heap[P5]? = some (.cells #[.slice pu 258 cu, .slice pw m cw] 30 (0, 0)) := by rw [hw4, hP5]; exact alloc_new _ _ _
  have z4 : w4.heap.size = P5 + 1 := by rw [hw4, hP5]; exact World.size_alloc _ _
  have z3 := k3.size
  have bg := o31.bg (by omega)
  obtain ⟨w5, hw5⟩ : ∃ w5, w5 = w4.setCell ⟨P5, 1, none⟩ (.slice none 0 0) := ⟨_, rfl⟩
  have z5 : w5.heap.size = P5 + 1 := by rw [hw5, World.size_setCell]; exact z4
  have b5 : w5.heap[P5]? = some (.cells #[.slice pu 258 cu, .slice none 0 0] 30 (0, 0)) := by rw [hw5]; exact set_known _ b4
  have bl5 : ∀ q, q < P5 → w5.heap[q]? = w3.heap[q]? := fun q hq => by rw [hw5, Below.heap_setCell _ _ _ _ (show q ≠ P5 by omega)]; exact k34.block q (Nat.zero_le _) (by omega)
  have k25 : Kb 0 w2 w5 := by rw [hw5]; exact (k3.trans k34).setCell _ (.inr (by show w2.heap.size ≤ P5; omega)) _
  have hS0 : SI w2.heap.size g P5 (.slice pu 258 cu) w2 (fun i => (B i).A) w5 := by
    refine ⟨⟨V, G, ?_⟩, b5, k25, Nat.le_refl _, by omega, by omega, by omega, bg.1⟩
    have o5 := (o31.block (fun q h1 h2 => bl5 q (by omega))).wide (Nat.le_refl _) (show M ≤ w5.heap.size by omega)
    refine ⟨o5.sl, o5.bg, fun j hj t ht => ?_, o5.fz, fun i hi => ?_, fun i hi hc => o5.lo i hi (by rw [(show ∀ i, i < 258 → (B i).c = 64 from HB64) i hi]; omega), fun i j hi hj hij _ _ => o5.di i j hi hj hij (by rw [(show ∀ i, i < 258 → (B i).c = 64 from HB64) i hi]; omega) (by rw [(show ∀ i, i < 258 → (B i).c = 64 from HB64) j hj]; omega)⟩
    · exact o5.cs j hj t ht
    · have := o5.ow i hi
      rw [(show ∀ i, i < 258 → (B i).c = 64 from HB64) i hi] at this
      exact this
  obtain ⟨L, hL⟩ : ∃ L, L = w2.heap.size := ⟨_, rfl⟩
  rw [← hL] at hS0
  have HS0 : Hid (SI L g P5 (.slice pu 258 cu) w2 (stk (fun i => (B i).A) Q kp 0) w5) := hS0
  have b05 := (k25.block _ (Nat.zero_le _) (by omega)).trans b02
  have HL : Hid (L = w2.heap.size) := hL
  have c1 : w4.cell? ⟨P5, 1, none⟩ = some (.slice pw m cw) := cell_of b4 rfl
  have f1 : w4.frozen? ⟨P5, 1, none⟩ = false := frozen_of b4
  have u1 : w5.cell? ⟨w.heap.size, 1, none⟩ = some (.slice p2 m c2) := cell_of b05 rfl
  have HW4 : Hid (w4 = w3.alloc (.cells #[.slice pu 258 cu, .slice pw m cw] 30) ∧ P5 = w3.heap.size) := (⟨hw4, hP5⟩ : _ ∧ _)
  have HW5 : Hid (w5 = w4.setCell ⟨P5, 1, none⟩ (.slice none 0 0)) := hw5
  clear o31 o32 l31 l32 k3 kw2 b02 b12 z2 hP5 hw4 k34 b4 z4 z3 bg hw5 z5 b5 bl5 k25 hS0 hL b05 V G V' G' g' HB64
  go_upto_region 2 with fail
  rw [← (show _ ∧ _ from HW4).1, ← (show _ ∧ _ from HW4).2]
  clear HW4
  go_upto_region 3 with fail
  rw [← (show w5 = _ from HW5)]
  clear HW5 c1 f1
  go_wp2_with fail
  clear u1
  go_loopw [14] (fun s14 wr => ∃ i : Nat, s14 = .int .i64 (i : Int) ∧ i ≤ m ∧ Hid (SI L g P5 (.slice pu 258 cu) w2 (stk (fun i => (B i).A) Q kp i) wr)) (fun s14 _ => m - (intOf s14).toNat)
  case atStart => exact ⟨0, rfl, Nat.zero_le _, HS0⟩
  case round =>
    clear HS0
    obtain ⟨i, rfl, hil, HX⟩ := hrel
    have hX := (show SI L g P5 (.slice pu 258 cu) w2 (stk (fun i => (B i).A) Q kp i) wr from HX)
    clear HX
    obtain ⟨kw2, b02, b12, z2⟩ := (show _ ∧ _ ∧ _ ∧ _ from HB)
    obtain rfl : pu = some ⟨g, 0, none⟩ := by
      obtain ⟨⟨V, G, o⟩, _⟩ := id hX
      obtain ⟨p, cap, e1, e2⟩ := o.sl
      injection e1 with e1 _ _
      rw [e1]
      exact (e2 (by omega)).1
    obtain ⟨⟨V, G, o⟩, d, k2r, l1, l2, l3, l4, l5⟩ := id hX
    by_cases hi : i < m
    case neg =>
      obtain rfl : i = m := by omega
      have r := (k2r.block (w.heap.size + 1) (Nat.zero_le _) (by omega)).trans b12
      have e0 : wr.cell? ⟨P5, 0, none⟩ = some (.slice (some ⟨g, 0, none⟩) 258 cu) := cell_of d rfl
      have e1 : wr.cell? ⟨P5, 1, none⟩ = some (.slice none 0 0) := cell_of d rfl
      have a0 : wr.cell? ⟨w.heap.size + 1, 0, none⟩ = some (.slice none 0 0) := cell_of r rfl
      have a1 : wr.cell? ⟨w.heap.size + 1, 1, none⟩ = some (.slice none 0 0) := cell_of r rfl
      have fy : ∀ j, wr.frozen? ⟨w.heap.size + 1, j, none⟩ = false := fun j => frozen_of r
      obtain ⟨WF, hWF⟩ : ∃ WF, WF = (wr.setCell ⟨w.heap.size + 1, 0, none⟩ (.slice (some ⟨g, 0, none⟩) 258 cu)).setCell ⟨w.heap.size + 1, 1, none⟩ (.slice none 0 0) := ⟨_, rfl⟩
      have zF : WF.heap.size = wr.heap.size := by rw [hWF]; simp
      have bF : ∀ q, q ≠ w.heap.size + 1 → WF.heap[q]? = wr.heap[q]? := fun q hq => by
        rw [hWF, Below.heap_setCell _ _ _ _ (show q ≠ w.heap.size + 1 from hq), Below.heap_setCell _ _ _ _ (show q ≠ w.heap.size + 1 from hq)]
      have rF : WF.heap[w.heap.size + 1]? = some (.cells #[.slice (some ⟨g, 0, none⟩) 258 cu, .slice none 0 0] 30 (0, 0)) := by
        rw [hWF]
        exact set_known _ (set_known _ r)
      have f3 : WF.cell? ⟨w.heap.size + 1, 0, none⟩ = some (.slice (some ⟨g, 0, none⟩) 258 cu) := cell_of rF rfl
      have f4 : WF.cell? ⟨w.heap.size + 1, 1, none⟩ = some (.slice none 0 0) := cell_of rF rfl
      have kF : Kb 0 w WF := by rw [hWF]; exact ((kw2.trans k2r).setCell _ (.inr (by show _ ≤ w.heap.size + 1; omega)) _).setCell _ (.inr (by show _ ≤ w.heap.size + 1; omega)) _
      have oF : OwD w.heap.size WF.heap.size WF (.slice (some ⟨g, 0, none⟩) 258 cu) (.slice none 0 0) ⟨258, pE (stk (fun i => (B i).A) Q kp i), 0, Q'⟩ := by
        rw [zF]
        exact ⟨wr.heap.size, g, V, G, 0, fun _ => .slice none 0 0, fun _ => 0, (o.block (fun q h1 h2 => bF q (by omega))).wide (by omega) (Nat.le_refl _), ⟨⟨none, 0, rfl, fun q => absurd q (by show ¬ 0 < 0; omega)⟩, fun q => absurd q (by show ¬ 0 < 0; omega), fun j hj => absurd hj (by show ¬ j < 0; omega), fun q => absurd q (by show ¬ 0 < 0; omega), fun i hi => absurd hi (by show ¬ i < 0; omega), fun i hi => absurd hi (by show ¬ i < 0; omega), fun i j hi => absurd hi (by show ¬ i < 0; omega)⟩, by have := (kw2.trans k2r).size; omega, Nat.le_refl _⟩
      have HF : Hid (OwD w.heap.size WF.heap.size WF (.slice (some ⟨g, 0, none⟩) 258 cu) (.slice none 0 0) ⟨258, pE (stk (fun i => (B i).A) Q kp i), 0, Q'⟩ ∧ Kb 0 w WF) := (⟨oF, kF⟩ : _ ∧ _)
      have HWF : Hid (WF = _) := hWF
      clear hX o d k2r l1 l2 l3 l4 l5 kw2 b02 b12 z2 r zF bF rF kF oF hWF HA2 HKK HB HL
      go_wp2_with fail
      rw [← (show WF = _ from HWF)]
      clear HWF
      refine bodyPost_ret (by simp [results, Try.results56, go_sem, f3, f4]; rfl) rfl ?_
      exact ⟨_, _, rfl, HF⟩
    have hiI : (i : Int) < (m : Int) := by omega
    have kwr := kw2.trans k2r
    obtain ⟨a, rfl, hca, hra⟩ := (show 0 < m → _ from HA2) (by omega)
    obtain ⟨hEl, ob1, ob2, ob3⟩ := hra i hi
    obtain ⟨vc, x0, xt, hvc⟩ := hEl.keep (.inr (.inl rfl)) (Nat.zero_le _) kwr
    rw [ob3] at hvc
    obtain ⟨q0, r0, rfl, -⟩ := id hvc
    obtain ⟨fb, hfb⟩ : ∃ fb : Nat, (Q i).b = (fb : Int) := ⟨(Q i).b.toNat, by omega⟩
    have hfI : (fb : Int) < 258 := by omega
    have d0 : wr.cell? (a.add (i * 2)) = some (.int .i64 (fb : Int)) := by rw [← hfb]; exact x0
    have d1 : wr.cell? ⟨(a.add (i * 2)).block, (a.add (i * 2)).off + 1, none⟩ = some (.slice q0 64 r0) := xt 1 (by omega) (by omega)
    obtain ⟨hkk, hkp⟩ := (show _ ∧ _ from HKK)
    have hkpi := hkp i hi
    have HCR : Hid (kp i = true → ∀ w5, Kb 0 wr w5 → ∀ W, Kb 0 w5 W → Calls Try.prog 45 #[.slice q0 64 r0] W fun e W6 => ∃ vx, e = .returned vx ∧ (∃ px cx, vx = .slice px 64 cx) ∧ Kb 0 W W6 ∧ ((∃ u, W6.cell? ⟨g, fb, none⟩ = some u) ∧ W6.frozen? ⟨g, fb, none⟩ = false) ∧ SI L g P5 (.slice (some ⟨g, 0, none⟩) 258 cu) w2 (stk (fun i => (B i).A) Q kp (i + 1)) (W6.setCell ⟨g, fb, none⟩ vx)) := (fun hy w5 k5 W k => (sp_copy W (hvc.keep (k5.trans k)).row (by omega)).mono (fun e W6 ⟨vx, gx, e1, ox, lx, k6⟩ => by
      obtain ⟨px, cx, ex, _⟩ := ox.sl
      obtain ⟨s1, s2⟩ := (hX.keep (k5.trans k)).put (b := fb) (A := (Q i).A) (by omega) k6 ox (lx (by omega))
      refine ⟨vx, e1, ⟨px, cx, ex⟩, k6, s1, ?_⟩
      rw [stk, if_pos hy, hfb, Int.toNat_natCast]
      exact s2) : kp i = true → _)
    have HNO : Hid (kp i = false → ∀ w5, Kb 0 wr w5 → SI L g P5 (.slice (some ⟨g, 0, none⟩) 258 cu) w2 (stk (fun i => (B i).A) Q kp (i + 1)) w5) := (fun hn w5 k5 => by
      rw [stk, if_neg (by rw [hn]; exact Bool.false_ne_true)]
      exact hX.keep k5 : kp i = false → _)
    have HKR : Hid (∀ w5, Kb 0 wr w5 → w5.cell? ⟨P5, 0, none⟩ = some (.slice (some ⟨g, 0, none⟩) 258 cu)) := (fun w5 k5 => k5.cell (cell_of d rfl) : ∀ w5, _)
    have HKC : Hid (i < nk → ∃ ak : Addr, pk = some ak ∧ ∀ w5, Kb 0 wr w5 → w5.cell? (ak.add i) = some (.bool (kk i))) := (fun q => by
      obtain ⟨ak, e1, _, e3⟩ := hkk (by omega)
      exact ⟨ak, e1, fun w5 k5 => (kwr.trans k5).cell (e3 i q)⟩ : i < nk → _)
    clear hX o d k2r l1 l2 l3 l4 l5 kw2 b02 b12 z2 hra hEl ob1 ob2 ob3 x0 xt hvc hfb hkk hkp kwr
    go_upto_region 6 with fail
    generalize hw5 : World.alloc wr _ = w5
    have k5 : Kb 0 wr w5 := by rw [← hw5]; exact kb_alloc _ _ _
    have b5 : w5.heap[wr.heap.size]? = some (.cells #[.int .i64 (fb : Int), .slice q0 64 r0] 71 (0, 0)) := by rw [← hw5]; exact alloc_new _ _ _
    have hS5 : (fun W' : World => W'.cell? ⟨P5, 0, none⟩ = some (.slice (some ⟨g, 0, none⟩) 258 cu) ∧ W'.cell? ⟨wr.heap.size, 0, none⟩ = some (.int .i64 (fb : Int)) ∧ W'.cell? ⟨wr.heap.size, 1, none⟩ = some (.slice q0 64 r0)) w5.drew := ⟨(show ∀ w5, Kb 0 wr w5 → _ from HKR) w5 k5, cell_of b5 rfl, cell_of b5 rfl⟩
    have HS5 : Hid ((fun W' : World => W'.cell? ⟨P5, 0, none⟩ = some (.slice (some ⟨g, 0, none⟩) 258 cu) ∧ W'.cell? ⟨wr.heap.size, 0, none⟩ = some (.int .i64 (fb : Int)) ∧ W'.cell? ⟨wr.heap.size, 1, none⟩ = some (.slice q0 64 r0)) w5.drew) := hS5
    have HCR5 : Hid (kp i = true → ∀ W, Kb 0 w5 W → Calls Try.prog 45 #[.slice q0 64 r0] W fun e W6 => ∃ vx, e = .returned vx ∧ (∃ px cx, vx = .slice px 64 cx) ∧ Kb 0 W W6 ∧ ((∃ u, W6.cell? ⟨g, fb, none⟩ = some u) ∧ W6.frozen? ⟨g, fb, none⟩ = false) ∧ SI L g P5 (.slice (some ⟨g, 0, none⟩) 258 cu) w2 (stk (fun i => (B i).A) Q kp (i + 1)) (W6.setCell ⟨g, fb, none⟩ vx)) := (fun hy => (show kp i = true → ∀ w5, _ from HCR) hy w5 k5 : kp i = true → _)
    have HNO5 : Hid (kp i = false → SI L g P5 (.slice (some ⟨g, 0, none⟩) 258 cu) w2 (stk (fun i => (B i).A) Q kp (i + 1)) w5) := (fun hn => (show kp i = false → ∀ w5, _ from HNO) hn w5 k5 : kp i = false → _)
    have HKC5 : Hid (i < nk → ∃ ak : Addr, pk = some ak ∧ w5.cell? (ak.add i) = some (.bool (kk i))) := (fun q => by
      obtain ⟨ak, e1, e2⟩ := (show i < nk → _ from HKC) q
      exact ⟨ak, e1, e2 w5 k5⟩ : i < nk → _)
    clear hw5 k5 b5 hS5 HCR HNO HKR HKC d0 d1
    by_cases hin : i < nk
    case neg =>
      have hno : kp i = false := by rw [hkpi]; simp [hin]
      have HN : Hid (SI L g P5 (.slice (some ⟨g, 0, none⟩) 258 cu) w2 (stk (fun i => (B i).A) Q kp (i + 1)) w5) := (show kp i = false → _ from HNO5) hno
      have hin' : ¬ (i : Int) < (nk : Int) := by omega
      clear HNO5 HCR5 HKC5 HS5 hkpi hno HA2 HKK HB HL hin
      go_wp2_with fail
      go_roundw
      case rel => exact ⟨i + 1, by go_num, by omega, HN⟩
      case measure => simp [intOf]; omega
    obtain ⟨ak, rfl, hck⟩ := (show i < nk → _ from HKC5) hin
    have hin' : (i : Int) < (nk : Int) := by omega
    cases hki : kk i with
    | false =>
      rw [hki] at hck
      have hno : kp i = false := by rw [hkpi, hki]; simp
      have HN : Hid (SI L g P5 (.slice (some ⟨g, 0, none⟩) 258 cu) w2 (stk (fun i => (B i).A) Q kp (i + 1)) w5) := (show kp i = false → _ from HNO5) hno
      clear HNO5 HCR5 HKC5 HS5 hkpi hno HA2 HKK HB HL hin hki
      go_wp2_with fail
      go_roundw
      case rel => exact ⟨i + 1, by go_num, by omega, HN⟩
      case measure => simp [intOf]; omega
    | true =>
      rw [hki] at hck
      have hyes : kp i = true := by rw [hkpi, hki]; simp [hin]
      have HCP : Hid (∀ W, Kb 0 w5 W → Calls Try.prog 45 #[.slice q0 64 r0] W fun e W6 => ∃ vx, e = .returned vx ∧ (∃ px cx, vx = .slice px 64 cx) ∧ Kb 0 W W6 ∧ ((∃ u, W6.cell? ⟨g, fb, none⟩ = some u) ∧ W6.frozen? ⟨g, fb, none⟩ = false) ∧ SI L g P5 (.slice (some ⟨g, 0, none⟩) 258 cu) w2 (stk (fun i => (B i).A) Q kp (i + 1)) (W6.setCell ⟨g, fb, none⟩ vx)) := (show kp i = true → _ from HCR5) hyes
      clear HNO5 HCR5 HKC5 hkpi hyes HA2 HKK HB HL hin hki
      go_upto_region 7 with fail
      clear hck
      refine AnyL.region (S := fun W' => W'.cell? ⟨P5, 0, none⟩ = some (.slice (some ⟨g, 0, none⟩) 258 cu) ∧ W'.cell? ⟨wr.heap.size, 0, none⟩ = some (.int .i64 (fb : Int)) ∧ W'.cell? ⟨wr.heap.size, 1, none⟩ = some (.slice q0 64 r0)) (z := 8) (by kernel_rfl) ?_
      have hS0 := (show (fun W' : World => W'.cell? ⟨P5, 0, none⟩ = some (.slice (some ⟨g, 0, none⟩) 258 cu) ∧ W'.cell? ⟨wr.heap.size, 0, none⟩ = some (.int .i64 (fb : Int)) ∧ W'.cell? ⟨wr.heap.size, 1, none⟩ = some (.slice q0 64 r0)) w5.drew from HS5)
      have HKD : Hid (Kb 0 w5 w5.drew) := (Kb.drewN (Kb.refl _ _) 1 : Kb 0 w5 w5.drew)
      obtain ⟨W0, hW0⟩ : ∃ W0, W0 = w5.drew := ⟨_, rfl⟩
      rw [← hW0] at HKD hS0 ⊢
      clear hW0 HS5
      refine AnyL.takeAt 0 (.pointer (some ⟨P5, 0, none⟩)) rfl (by kernel_rfl) (by kernel_rfl) (by kernel_rfl) (by kernel_rfl) (fun _ _ _ h => h) rfl hS0 (by intro W hW; first | go_simp | (obtain ⟨i0, i1, i2⟩ := hW; go_simp)) ?_
      try simp only [Act.put, List.setIfInBounds_toArray, List.set_cons_zero, List.set_cons_succ]
      refine AnyL.takeAt 1 (.slice (some ⟨g, 0, none⟩) 258 cu) rfl (by kernel_rfl) (by kernel_rfl) (by kernel_rfl) (by kernel_rfl) (fun _ _ _ h => h) rfl hS0 (by intro W hW; first | go_simp | (obtain ⟨i0, i1, i2⟩ := hW; go_simp)) ?_
      try simp only [Act.put, List.setIfInBounds_toArray, List.set_cons_zero, List.set_cons_succ]
      refine AnyL.takeAt 2 (.pointer (some ⟨wr.heap.size, 0, none⟩)) rfl (by kernel_rfl) (by kernel_rfl) (by kernel_rfl) (by kernel_rfl) (fun _ _ _ h => h) rfl hS0 (by intro W hW; first | go_simp | (obtain ⟨i0, i1, i2⟩ := hW; go_simp)) ?_
      try simp only [Act.put, List.setIfInBounds_toArray, List.set_cons_zero, List.set_cons_succ]
      refine AnyL.takeAt 3 (.int .i64 (fb : Int)) rfl (by kernel_rfl) (by kernel_rfl) (by kernel_rfl) (by kernel_rfl) (fun _ _ _ h => h) rfl hS0 (by intro W hW; first | go_simp | (obtain ⟨i0, i1, i2⟩ := hW; go_simp)) ?_
      try simp only [Act.put, List.setIfInBounds_toArray, List.set_cons_zero, List.set_cons_succ]
      refine AnyL.takeAt 4 (.pointer (some ⟨wr.heap.size, 1, none⟩)) rfl (by kernel_rfl) (by kernel_rfl) (by kernel_rfl) (by kernel_rfl) (fun _ _ _ h => h) rfl hS0 (by intro W hW; first | go_simp | (obtain ⟨i0, i1, i2⟩ := hW; go_simp)) ?_
      try simp only [Act.put, List.setIfInBounds_toArray, List.set_cons_zero, List.set_cons_succ]
      refine AnyL.takeAt 5 (.slice q0 64 r0) rfl (by kernel_rfl) (by kernel_rfl) (by kernel_rfl) (by kernel_rfl) (fun _ _ _ h => h) rfl hS0 (by intro W hW; first | go_simp | (obtain ⟨i0, i1, i2⟩ := hW; go_simp)) ?_
      try simp only [Act.put, List.setIfInBounds_toArray, List.set_cons_zero, List.set_cons_succ]
      refine AnyL.oneAt 6 rfl (by kernel_rfl) rfl ?_
      intro K hK
      go_simp
      refine ((show ∀ W, Kb 0 w5 W → _ from HCP) W0 HKD).mono ?_
      rintro e W6 ⟨vx, rfl, ⟨px, cx, rfl⟩, k6, ⟨⟨u6, hu6⟩, hf6⟩, HSI⟩
      have hS6 : (fun W' : World => W'.cell? ⟨P5, 0, none⟩ = some (.slice (some ⟨g, 0, none⟩) 258 cu) ∧ W'.cell? ⟨wr.heap.size, 0, none⟩ = some (.int .i64 (fb : Int)) ∧ W'.cell? ⟨wr.heap.size, 1, none⟩ = some (.slice q0 64 r0)) W6 := ⟨k6.cell hS0.1, k6.cell hS0.2.1, k6.cell hS0.2.2⟩
      have HI6 : Hid (SI L g P5 (.slice (some ⟨g, 0, none⟩) 258 cu) w2 (stk (fun i => (B i).A) Q kp (i + 1)) (W6.setCell ⟨g, fb, none⟩ (.slice px 64 cx))) := HSI
      clear HCP k6 HKD hS0 HSI
      refine hK.out _ _ (fun _ => hS6) ?_
      clear hK K
      try simp only [Act.put, List.setIfInBounds_toArray, List.set_cons_zero, List.set_cons_succ]
      refine AnyL.oneAt 7 rfl (by kernel_rfl) rfl ?_
      intro K hK
      go_simp
      refine hK.out _ _ (fun _ => hS6) ?_
      clear hK K
      try simp only [Act.put, List.setIfInBounds_toArray, List.set_cons_zero, List.set_cons_succ]
      refine AnyL.oneAt 8 rfl (by kernel_rfl) rfl ?_
      intro K hK
      go_simp
      refine hK.out _ _ (fun h => absurd rfl h) ?_
      clear hK K hu6 hf6 hS6
      try simp only [Act.put, List.setIfInBounds_toArray, List.set_cons_zero, List.set_cons_succ]
      refine AnyL.done (by kernel_rfl) ?_
      go_wp2_with fail
      go_roundw
      case rel => exact ⟨i + 1, by go_num, by omega, HI6⟩
      case measure => simp [intOf]; omega

end Go.Proofs.Ytiojjejphdhpeaa.Fo
