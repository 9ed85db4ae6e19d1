import Derived.Test.YtiojjejphdhpeaaMDgd
import Derived.Test.YtiojjejphdhpeaaMDad
import Derived.Test.YtiojjejphdhpeaaMDgg
namespace Go.Proofs.Ytiojjejphdhpeaa.Fo
open Go.ChangeShapes Go.WideShapes Go.ChangeAt Go.RowKit
set_option linter.unusedVariables false
set_option maxRecDepth 100000
set_option linter.unusedSimpArgs false
/-- the function value of an op: its boxes lie at x and x + 1 -/
def fvl (e : Ed) (x : Nat) : Value := if e.s = true then .func (.func 88) #[] #[] else .func (.func 83) #[] #[.pointer (some ⟨x, 0, none⟩), .pointer (some ⟨x + 1, 0, none⟩)]
def fcl (F : Nat → Ed) (bx : Nat → Nat) : Nat → List Value
  | 0 => []
  | i + 1 => fcl F bx i ++ [fvl (F i) (bx i)]
theorem fcl_ext (F : Nat → Ed) {bx bx' : Nat → Nat} : ∀ i, (∀ j, j < i → bx j = bx' j) → fcl F bx i = fcl F bx' i
  | 0, _ => rfl
  | i + 1, h => by rw [fcl, fcl, fcl_ext F i (fun j hj => h j (by omega)), h i (by omega)]
theorem fcl_len (F : Nat → Ed) (bx : Nat → Nat) : ∀ i, (fcl F bx i).length = i
  | 0 => rfl
  | i + 1 => by rw [fcl, List.length_append, fcl_len F bx i]; rfl
theorem fcl_at (F : Nat → Ed) (bx : Nat → Nat) : ∀ n i, i < n → (fcl F bx n)[i]? = some (fvl (F i) (bx i))
  | 0, i, h => by omega
  | n + 1, i, h => by
    rw [fcl]
    rcases Nat.lt_or_ge i n with q | q
    · rw [List.getElem?_append_left (by rw [fcl_len]; exact q)]
      exact fcl_at F bx n i q
    · obtain rfl : i = n := by omega
      rw [List.getElem?_append_right (by rw [fcl_len]; exact Nat.le_refl _), fcl_len, Nat.sub_self]
      rfl
/-- the boxes of an op that writes -/
structure BoxAt (w wr : World) (v : Value) (e : Ed) (x : Nat) : Prop where
  lo : w.heap.size ≤ x
  hi : x + 1 < wr.heap.size
  b1 : wr.heap[x]? = some (.cells #[.int .i64 e.b] 3 (0, 0))
  b2 : ∃ vj, wr.heap[x + 1]? = some (.cells #[vj] 26 (0, 0)) ∧ RowV w vj e.c (ub e.A)
  n1 : some x ≠ v.ownBlock
  n2 : some (x + 1) ≠ v.ownBlock
/-- the first i steps -/
structure SF (w : World) (F : Nat → Ed) (bx : Nat → Nat) (i : Nat) (v : Value) (wr : World) : Prop where
  ro : wr.ownsRow w.heap.size 76 1 v i (fcl F bx i)
  bo : ∀ j, j < i → (F j).s = false → BoxAt w wr v (F j) (bx j)
  kb : Kb 0 w wr
theorem SF.push {w : World} {F : Nat → Ed} {bx : Nat → Nat} {i : Nat} {v : Value} {wr W6 W8 : World} {ob : Obj} {g cap x : Nat} (h : SF w F bx i v wr) (k6 : Kb 0 wr W6)
    (hx : (F i).s = false → wr.heap.size ≤ x ∧ x + 1 < W6.heap.size ∧ W6.heap[x]? = some (.cells #[.int .i64 (F i).b] 3 (0, 0)) ∧ ∃ vj, W6.heap[x + 1]? = some (.cells #[vj] 26 (0, 0)) ∧ RowV w vj (F i).c (ub (F i).A))
    (h8 : W8.ownsRow w.heap.size 76 1 (.slice (some ⟨g, 0, none⟩) (i + 1) cap) (i + 1) (fcl F bx i ++ [fvl (F i) x])) (g8 : (W6.alloc ob).grownBy W8 v.ownBlock) (ha : v.ownBlock = some g ∨ g = W6.heap.size + 1) :
    SF w F (fun j => if j = i then x else bx j) (i + 1) (.slice (some ⟨g, 0, none⟩) (i + 1) cap) W8 := by
  have z6 := k6.size
  have z8 : W6.heap.size + 1 ≤ W8.heap.size := by have := g8.size; rw [World.size_alloc] at this; exact this
  have b8 : ∀ q, q < W6.heap.size → some q ≠ v.ownBlock → W8.heap[q]? = W6.heap[q]? := fun q hq hn => (g8.block q (by rw [World.size_alloc]; omega) hn).trans ((kb_alloc 0 W6 ob).block q (Nat.zero_le _) hq)
  have ng : ∀ q, q < W6.heap.size → some q ≠ v.ownBlock → some q ≠ (Value.slice (some ⟨g, 0, none⟩) (i + 1) cap).ownBlock := fun q hq hn e => by
    have e' : q = g := by simpa [Value.ownBlock] using e
    rcases ha with a | a
    · exact hn (by rw [a, e'])
    · omega
  have lo : ∀ q, q < w.heap.size → some q ≠ v.ownBlock := fun q hq e => by have := (h.ro.lt q e.symm).1; omega
  have up : ∀ q, wr.heap.size ≤ q → some q ≠ v.ownBlock := fun q hq e => by have := (h.ro.lt q e.symm).2; omega
  refine ⟨?_, fun j hj hs => ?_, ⟨?_, ?_, ?_, fun q h1 h2 => ?_⟩⟩
  · rw [fcl, if_pos rfl, ← fcl_ext F (bx := bx) (bx' := fun j => if j = i then x else bx j) i (fun j hj => (if_neg (by omega)).symm)]
    exact h8
  · rcases Nat.lt_or_ge j i with q | q
    · show BoxAt w W8 _ (F j) (if j = i then x else bx j)
      rw [if_neg (by omega)]
      have o := h.bo j q hs
      obtain ⟨vj, o2, o3⟩ := o.b2
      have hl := o.hi
      exact ⟨o.lo, by omega, ((b8 _ (by omega) o.n1).trans (k6.block _ (Nat.zero_le _) (by omega))).trans o.b1, ⟨vj, ((b8 _ (by omega) o.n2).trans (k6.block _ (Nat.zero_le _) (by omega))).trans o2, o3⟩, ng _ (by omega) o.n1, ng _ (by omega) o.n2⟩
    · obtain rfl : j = i := by omega
      show BoxAt w W8 _ (F j) (if j = j then x else bx j)
      rw [if_pos rfl]
      obtain ⟨x1, x2, x3, vj, x4, x5⟩ := hx hs
      have zw := h.kb.size
      exact ⟨by omega, by omega, (b8 _ (by omega) (up _ x1)).trans x3, ⟨vj, (b8 _ (by omega) (up _ (by omega))).trans x4, x5⟩, ng _ (by omega) (up _ x1), ng _ (by omega) (up _ (by omega))⟩
  · rw [g8.os]; exact k6.os.trans h.kb.os
  · rw [g8.output]; exact k6.output.trans h.kb.output
  · have := h.kb.size
    omega
  · have := h.kb.size
    exact ((b8 q (by omega) (lo q h2)).trans (k6.block q h1 (by omega))).trans (h.kb.block q h1 h2)
theorem infoSt : ∃ i1 z, Try.prog.info? 76 = some i1 ∧ i1.zero = some z ∧ i1.size = 1 ∧ i1.bytes = 8 ∧ z.cells.size = 1 := ⟨Try.t76, .nilFunc, by kernel_rfl, by kernel_rfl, by kernel_rfl, by kernel_rfl, by kernel_rfl⟩
set_option maxHeartbeats 16000000 in
theorem im_steps {vo : Value} {n : Nat} {F : Nat → Ed} (w : World) (ha : RowE 3 0 w vo n F) (hn : n ≤ 1048576) :
    Calls Try.prog 77 #[vo] w fun e w' => ∃ vs bx, e = .returned vs ∧ SF w F bx n vs w' := by
  obtain ⟨pa, ca, rfl, ha2⟩ := ha
  have hnI : (n : Int) ≤ 1048576 := by omega
  have HA : Hid (0 < n → ∃ a : Addr, pa = some a ∧ n ≤ ca ∧ 0 ≤ a.block ∧ ∀ i, i < n → ElC 3 0 w (a.add (i * 3)) (F i)) := ha2
  have HS0 : Hid (SF w F (fun _ => 0) 0 (.slice none 0 0) w) := (⟨World.ownsRow_nil _ _ _ _, fun j hj => by omega, Kb.refl _ _⟩ : SF w F (fun _ => 0) 0 (.slice none 0 0) w)
  obtain ⟨i1, z1, hi1, hz0, hz1, hz2, hz3⟩ := infoSt
  have HI1 : Hid (Try.prog.info? 76 = some i1) := hi1
  clear ha2 hi1 hn
  go_enter Try.func77, Try.ntmps77
  go_wp2_with fail
  go_loopw [3, 8] (fun s3 s8 wr => ∃ (i : Nat) (v : Value) (bx : Nat → Nat), s3 = v ∧ s8 = .int .i64 (i : Int) ∧ i ≤ n ∧ Hid (SF w F bx i v wr)) (fun _ s8 _ => n - (intOf s8).toNat)
  case atStart => exact ⟨0, _, _, rfl, rfl, Nat.zero_le _, HS0⟩
  case round =>
    clear HS0
    obtain ⟨i, v, bx, rfl, rfl, hil, HX⟩ := hrel
    have hX := (show SF w F bx i _ wr from HX)
    obtain ⟨pl, cl, rfl⟩ := own_shape hX.ro
    clear HX
    by_cases hi : i < n
    case neg =>
      obtain rfl : i = n := by omega
      have HX : Hid (SF w F bx i (.slice pl i cl) wr) := hX
      clear hX hz0 hz1 hz2 hz3 HI1 HA
      go_wp2_with fail
      go_ret
      exact ⟨_, bx, rfl, HX⟩
    have hiI : (i : Int) < (n : Int) := by omega
    obtain ⟨a, rfl, hca, _, hra⟩ := (show 0 < n → _ from HA) (by omega)
    obtain ⟨vc, x0, xt, hvc⟩ := (hra i hi).keep (.inr (.inr rfl)) (Nat.zero_le _) hX.kb
    obtain ⟨vc', y0, yt, hvw⟩ := hra i hi
    have evc : vc' = vc := by
      have h1 := hX.kb.cell (show w.cell? ⟨(a.add (i * 3)).block, (a.add (i * 3)).off + 2, none⟩ = some vc' from yt 2 (by omega) (by omega))
      have h2 : wr.cell? ⟨(a.add (i * 3)).block, (a.add (i * 3)).off + 2, none⟩ = some vc := xt 2 (by omega) (by omega)
      rw [h1] at h2
      injection h2
    subst evc
    obtain ⟨q0, r0, rfl, -⟩ := id hvc
    have d0 : wr.cell? (a.add (i * 3)) = some (.bool (F i).s) := x0
    have d1 : wr.cell? ⟨(a.add (i * 3)).block, (a.add (i * 3)).off + 1, none⟩ = some (.int .i64 (F i).b) := xt 1 (by omega) (by omega)
    have d2 : wr.cell? ⟨(a.add (i * 3)).block, (a.add (i * 3)).off + 2, none⟩ = some (.slice q0 (F i).c r0) := xt 2 (by omega) (by omega)
    obtain ⟨w5, hw5⟩ : ∃ w5, w5 = wr.alloc (.cells #[.bool (F i).s, .int .i64 (F i).b, .slice q0 (F i).c r0] 96) := ⟨_, rfl⟩
    have k5 : Kb 0 wr w5 := by rw [hw5]; exact kb_alloc _ _ _
    have b5 : w5.heap[wr.heap.size]? = some (.cells #[.bool (F i).s, .int .i64 (F i).b, .slice q0 (F i).c r0] 96 (0, 0)) := by rw [hw5]; exact alloc_new _ _ _
    obtain ⟨PC, hPC⟩ : ∃ PC, PC = fcl F bx i := ⟨_, rfl⟩
    have HW5 : Hid (w5 = wr.alloc (.cells #[.bool (F i).s, .int .i64 (F i).b, .slice q0 (F i).c r0] 96)) := hw5
    have HRO : Hid (∀ W, Kb 0 wr W → W.ownsRow w.heap.size 76 1 (.slice pl i cl) i PC ∧ w.heap.size ≤ W.heap.size) := (fun W k => ⟨by rw [hPC]; exact own_keep hX.ro (fun q hq => k.block q (Nat.zero_le _) (hX.ro.lt q hq).2), Nat.le_trans hX.kb.size k.size⟩ : ∀ W, _)
    have HPS : Hid (∀ (W6 : World) (x : Nat), Kb 0 wr W6 → ((F i).s = false → wr.heap.size ≤ x ∧ x + 1 < W6.heap.size ∧ W6.heap[x]? = some (.cells #[.int .i64 (F i).b] 3 (0, 0)) ∧ W6.heap[x + 1]? = some (.cells #[.slice q0 (F i).c r0] 26 (0, 0))) → ∀ (ob : Obj) (W8 : World) (g cap : Nat), W8.ownsRow w.heap.size 76 1 (.slice (some ⟨g, 0, none⟩) (i + 1) cap) (i + 1) (PC ++ [fvl (F i) x]) → (W6.alloc ob).grownBy W8 (Value.slice pl i cl).ownBlock → ((Value.slice pl i cl).ownBlock = some g ∨ g = W6.heap.size + 1) → ∃ bx', SF w F bx' (i + 1) (.slice (some ⟨g, 0, none⟩) (i + 1) cap) W8) := (fun W6 x k6 hx ob W8 g cap h8 g8 ha => ⟨_, hX.push k6 (fun hs => by
      obtain ⟨x1, x2, x3, x4⟩ := hx hs
      exact ⟨x1, x2, x3, _, x4, hvw.row⟩) (by rw [← hPC]; exact h8) g8 ha⟩ : ∀ (W6 : World) (x : Nat), _)
    clear hX HA hra x0 xt hvc y0 yt hvw hw5 hPC hil
    cases hsi : (F i).s with
    | true =>
      rw [hsi] at d0 b5 HW5
      have c0 : w5.cell? ⟨wr.heap.size, 0, none⟩ = some (.bool true) := cell_of b5 rfl
      have HOW : Hid (w5.ownsRow w.heap.size 76 1 (.slice pl i cl) i PC ∧ w.heap.size ≤ w5.heap.size) := (show ∀ W, Kb 0 wr W → _ from HRO) w5 k5
      have HPU : Hid (∀ (ob : Obj) (W8 : World) (g cap : Nat), W8.ownsRow w.heap.size 76 1 (.slice (some ⟨g, 0, none⟩) (i + 1) cap) (i + 1) (PC ++ [.func (.func 88) #[] #[]]) → (w5.alloc ob).grownBy W8 (Value.slice pl i cl).ownBlock → ((Value.slice pl i cl).ownBlock = some g ∨ g = w5.heap.size + 1) → ∃ bx', SF w F bx' (i + 1) (.slice (some ⟨g, 0, none⟩) (i + 1) cap) W8) := (fun ob W8 g cap h8 => (show ∀ (W6 : World) (x : Nat), _ from HPS) w5 0 k5 (fun h => by rw [hsi] at h; cases h) ob W8 g cap (by unfold fvl; rw [if_pos hsi]; exact h8) : ∀ (ob : Obj) (W8 : World) (g cap : Nat), _)
      clear HRO HPS k5 b5 hsi
      go_upto_region 5 with fail
      rw [← (show w5 = _ from HW5)]
      clear HW5 d0 d1 d2
      go_wp2_with fail
      refine (im_syncing w5).mono ?_
      rintro e w6 ⟨rfl, hw6⟩
      rw [hw6]
      clear hw6 c0
      go_wp2_with (refine wpList_append_lies _ (by rfl) (.tmp 14) (.tmp 16) 105 (by rfl) w.heap.size 76 i1 z1 1 8 Try.underlying105 HI1 hz0 hz1 hz2 hz3 (by decide) (.slice pl i cl) i PC (by rfl) ((show _ ∧ _ from HOW).1.alloc _) ⟨w5.heap.size, 0, none⟩ 1 1 [.func (.func 88) #[] #[]] (by rfl) (by rfl) (qr_cells w5 #[.func (.func 88) #[] #[]] 76 [.func (.func 88) #[] #[]] rfl) (by intro y hy; simp only [List.mem_cons, List.not_mem_nil, or_false] at hy; rcases hy with rfl; rfl) (by decide) (by unfold maxLen; omega) (by omega) (by rw [World.size_alloc]; have := (show _ ∧ _ from HOW).2; omega) (w5.heap.size + 1) (World.size_alloc _ _) ?_; intro g' cap' w8 hown1 hgrow1 hat hlt; have HN := (show ∀ (ob : Obj) (W8 : World) (g cap : Nat), _ from HPU) _ w8 g' cap' hown1 hgrow1 hat; clear hown1 hgrow1 hat hlt)
      go_roundw
      case rel => obtain ⟨bx', hb⟩ := HN; exact ⟨i + 1, _, bx', rfl, by go_num, by omega, hb⟩
      case measure => simp [intOf]; omega
    | false =>
      rw [hsi] at d0 b5 HW5
      have c0 : w5.cell? ⟨wr.heap.size, 0, none⟩ = some (.bool false) := cell_of b5 rfl
      have c1 : w5.cell? ⟨wr.heap.size, 1, none⟩ = some (.int .i64 (F i).b) := cell_of b5 rfl
      have c2 : w5.cell? ⟨wr.heap.size, 2, none⟩ = some (.slice q0 (F i).c r0) := cell_of b5 rfl
      have HSI : Hid ((F i).s = false ∧ Kb 0 wr w5) := (⟨hsi, k5⟩ : _ ∧ _)
      clear k5 b5 hsi
      go_upto_region 5 with fail
      rw [← (show w5 = _ from HW5)]
      clear HW5 d0 d1 d2
      go_wp2_with fail
      refine (im_putting (F i).b q0 (F i).c r0 w5).mono ?_
      rintro e w6 ⟨rfl, hw6⟩
      have k56 : Kb 0 w5 w6 := by rw [hw6]; exact (kb_alloc _ _ _).trans (kb_alloc _ _ _)
      have e1 : w6.heap[w5.heap.size]? = some (.cells #[.int .i64 (F i).b] 3 (0, 0)) := by rw [hw6]; exact ((kb_alloc 0 _ _).block _ (Nat.zero_le _) (by rw [World.size_alloc]; omega)).trans (alloc_new _ _ _)
      have e2 : w6.heap[w5.heap.size + 1]? = some (.cells #[.slice q0 (F i).c r0] 26 (0, 0)) := by
        rw [hw6]
        have := alloc_new (w5.alloc (.cells #[.int .i64 (F i).b] 3)) #[.slice q0 (F i).c r0] 26
        rw [World.size_alloc] at this
        exact this
      have z6 : w6.heap.size = w5.heap.size + 2 := by rw [hw6, World.size_alloc, World.size_alloc]
      obtain ⟨hsi, k5⟩ := (show _ ∧ _ from HSI)
      have z5 := k5.size
      have HOW : Hid (w6.ownsRow w.heap.size 76 1 (.slice pl i cl) i PC ∧ w.heap.size ≤ w6.heap.size) := (show ∀ W, Kb 0 wr W → _ from HRO) w6 (k5.trans k56)
      have HPU : Hid (∀ (ob : Obj) (W8 : World) (g cap : Nat), W8.ownsRow w.heap.size 76 1 (.slice (some ⟨g, 0, none⟩) (i + 1) cap) (i + 1) (PC ++ [.func (.func 83) #[] #[.pointer (some ⟨w5.heap.size, 0, none⟩), .pointer (some ⟨w5.heap.size + 1, 0, none⟩)]]) → (w6.alloc ob).grownBy W8 (Value.slice pl i cl).ownBlock → ((Value.slice pl i cl).ownBlock = some g ∨ g = w6.heap.size + 1) → ∃ bx', SF w F bx' (i + 1) (.slice (some ⟨g, 0, none⟩) (i + 1) cap) W8) := (fun ob W8 g cap h8 => (show ∀ (W6 : World) (x : Nat), _ from HPS) w6 w5.heap.size (k5.trans k56) (fun _ => ⟨z5, by omega, e1, e2⟩) ob W8 g cap (by unfold fvl; rw [if_neg (by rw [hsi]; decide)]; exact h8) : ∀ (ob : Obj) (W8 : World) (g cap : Nat), _)
      clear HRO HPS k5 hsi hw6 k56 e1 e2 z6 z5 c0 c1 c2 HSI
      go_wp2_with (refine wpList_append_lies _ (by rfl) (.tmp 18) (.tmp 24) 105 (by rfl) w.heap.size 76 i1 z1 1 8 Try.underlying105 HI1 hz0 hz1 hz2 hz3 (by decide) (.slice pl i cl) i PC (by rfl) ((show _ ∧ _ from HOW).1.alloc _) ⟨w6.heap.size, 0, none⟩ 1 1 [.func (.func 83) #[] #[.pointer (some ⟨w5.heap.size, 0, none⟩), .pointer (some ⟨w5.heap.size + 1, 0, none⟩)]] (by rfl) (by rfl) (qr_cells w6 #[.func (.func 83) #[] #[.pointer (some ⟨w5.heap.size, 0, none⟩), .pointer (some ⟨w5.heap.size + 1, 0, none⟩)]] 76 [.func (.func 83) #[] #[.pointer (some ⟨w5.heap.size, 0, none⟩), .pointer (some ⟨w5.heap.size + 1, 0, none⟩)]] rfl) (by intro y hy; simp only [List.mem_cons, List.not_mem_nil, or_false] at hy; rcases hy with rfl; rfl) (by decide) (by unfold maxLen; omega) (by omega) (by rw [World.size_alloc]; have := (show _ ∧ _ from HOW).2; omega) (w6.heap.size + 1) (World.size_alloc _ _) ?_; intro g' cap' w8 hown1 hgrow1 hat hlt; have HN := (show ∀ (ob : Obj) (W8 : World) (g cap : Nat), _ from HPU) _ w8 g' cap' hown1 hgrow1 hat; clear hown1 hgrow1 hat hlt)
      go_roundw
      case rel => obtain ⟨bx', hb⟩ := HN; exact ⟨i + 1, _, bx', rfl, by go_num, by omega, hb⟩
      case measure => simp [intOf]; omega
end Go.Proofs.Ytiojjejphdhpeaa.Fo

namespace Go.Proofs.Ytiojjejphdhpeaa.Fo
open Go.ChangeShapes Go.WideShapes Go.ChangeAt Go.RowKit
set_option linter.unusedVariables false
set_option maxRecDepth 100000
set_option linter.unusedSimpArgs false
theorem addr_zero (p : Option Addr) : p.map (fun a => a.add 0) = p := by cases p with
  | none => rfl
  | some a => rfl
theorem rowE_pre {W : World} {p : Option Addr} {n c N : Nat} {F : Nat → Ed} (h : RowE 3 0 W (.slice p n c) n F) (hN : N ≤ n) : RowE 3 0 W (.slice p N c) N F := by
  obtain ⟨pa, ca, e, h2⟩ := h
  injection e with e1 e2 e3
  subst e1
  subst e3
  refine ⟨_, _, rfl, fun h0 => ?_⟩
  obtain ⟨a, q1, q2, q3, q4⟩ := h2 (by omega)
  exact ⟨a, q1, by omega, q3, fun i hi => q4 i (by omega)⟩
/-- an op that can be done -/
def Vo (D : Dd) (e : Ed) : Prop := e.s = true ∨ (Wok e.b e.c ∧ D.m < 200)
def nxt (D : Dd) (e : Ed) : Dd := if e.s = true then ⟨258, pE (stl (dpg D) D.Q D.m), 0, fun _ => zE⟩ else pD D e.b e.A
def sqD (D : Dd) (F : Nat → Ed) : Nat → Dd
  | 0 => D
  | i + 1 => nxt (sqD D F i) (F i)
theorem nxt_t {D : Dd} {e : Ed} (h : e.s = true) : nxt D e = ⟨258, pE (stl (dpg D) D.Q D.m), 0, fun _ => zE⟩ := if_pos h
theorem nxt_f {D : Dd} {e : Ed} (h : e.s = false) : nxt D e = pD D e.b e.A := if_neg (by rw [h]; decide)
theorem dok_nxt {D : Dd} {e : Ed} (h : Dok D) (v : Vo D e) : Dok (nxt D e) := by
  cases hs : e.s with
  | true =>
    rw [nxt_t hs]
    exact ⟨rfl, Nat.zero_le _, fun i hi => rfl, fun i hi => absurd hi (Nat.not_lt_zero _)⟩
  | false =>
    obtain ⟨hw, hm⟩ := v.resolve_left (by rw [hs]; decide)
    rw [nxt_f hs]
    refine ⟨h.1, hm, h.2.2.1, fun i hi => ?_⟩
    have hi2 : i < D.m + 1 := hi
    show Wok (if i = D.m then _ else _ : Ed).b (if i = D.m then _ else _ : Ed).c
    by_cases e : i = D.m
    · rw [if_pos e]; exact ⟨hw.1, hw.2.1, rfl⟩
    · rw [if_neg e]; exact h.2.2.2 i (by omega)
theorem dok_sq {D : Dd} {F : Nat → Ed} (h : Dok D) : ∀ i, (∀ j, j < i → Vo (sqD D F j) (F j)) → Dok (sqD D F i)
  | 0, _ => h
  | i + 1, v => dok_nxt (dok_sq h i (fun j hj => v j (by omega))) (v i (by omega))
/-- the first op that can't be done -/
theorem first_bad (p : Nat → Prop) : ∀ N, (∀ i, i < N → p i) ∨ ∃ K, K < N ∧ (∀ i, i < K → p i) ∧ ¬ p K
  | 0 => .inl (fun i hi => by omega)
  | N + 1 => by
    rcases first_bad p N with h | ⟨K, h1, h2, h3⟩
    · by_cases q : p N
      · exact .inl (fun i hi => (Nat.lt_or_ge i N).elim (h i) (fun r => (show i = N by omega) ▸ q))
      · exact .inr ⟨N, by omega, h, q⟩
    · exact .inr ⟨K, by omega, h2, h3⟩
def fA (e : Ed) : FuncId := if e.s = true then 88 else 83
def cA (e : Ed) (x : Nat) : Array Value := if e.s = true then #[] else #[.pointer (some ⟨x, 0, none⟩), .pointer (some ⟨x + 1, 0, none⟩)]
theorem fvl_eq (e : Ed) (x : Nat) : fvl e x = .func (.func (fA e)) #[] (cA e x) := by
  unfold fvl fA cA
  split <;> rfl
theorem SF.row {w : World} {F : Nat → Ed} {bx : Nat → Nat} {n : Nat} {v : Value} {wr : World} (h : SF w F bx n v wr) : RowV wr v n (fun i => .func (.func (fA (F i))) #[] (cA (F i) (bx i))) := by
  obtain ⟨ad, cap, rfl⟩ := own_shape h.ro
  refine ⟨ad, cap, rfl, fun hn => ?_⟩
  obtain ⟨g, cap', eg, hgd, hgc, hcell⟩ := own_cells h.ro hn
  injection eg with eg1 _ eg3
  refine ⟨⟨g, 0, none⟩, eg1, by omega, fun i hi => ?_⟩
  have := hcell i (by rw [Nat.mul_one]; exact hi)
  rw [addr0, this, fcl_at F bx n i hi, fvl_eq]
theorem st_op {W : World} {w : World} {F : Nat → Ed} {bx : Nat → Nat} {n : Nat} {v : Value} {D : Dd} {i : Nat} (h : SF w F bx n v W) (hi : i < n) (hok : Dok D) (hv : Vo D (F i)) : StepAt W (fA (F i)) (cA (F i) (bx i)) true (dpg D) D.m D.Q (dpg (nxt D (F i))) (nxt D (F i)).m (nxt D (F i)).Q := by
  cases hs : (F i).s with
  | true =>
    have e1 : fA (F i) = 88 := if_pos hs
    have e2 : cA (F i) (bx i) = #[] := if_pos hs
    rw [e1, e2, nxt_t hs]
    exact st_sync W hok.2.1 (fun j hj => ⟨(hok.2.2.2 j hj).1, (hok.2.2.2 j hj).2.1⟩) (fun _ => zE)
  | false =>
    have e1 : fA (F i) = 83 := if_neg (by rw [hs]; decide)
    have e2 : cA (F i) (bx i) = #[.pointer (some ⟨bx i, 0, none⟩), .pointer (some ⟨bx i + 1, 0, none⟩)] := if_neg (by rw [hs]; decide)
    obtain ⟨⟨hb1, hb2, hc⟩, hm⟩ := hv.resolve_left (by rw [hs]; decide)
    have o := h.bo i hi hs
    obtain ⟨vj, o2, o3⟩ := o.b2
    rw [e1, e2, nxt_f hs]
    rw [hc] at o3
    exact st_put_yes W (F i).b hm (cell_of o.b1 rfl) (cell_of o2 rfl) (rowv_keep o3 h.kb) ⟨hb1, hb2⟩
theorem st_op_no {W : World} {w : World} {F : Nat → Ed} {bx : Nat → Nat} {n : Nat} {v : Value} {D : Dd} {i : Nat} (h : SF w F bx n v W) (hi : i < n) (hok : Dok D) (hc : (F i).c ≤ 1048576) (hv : ¬ Vo D (F i)) : StepAt W (fA (F i)) (cA (F i) (bx i)) false (dpg D) D.m D.Q (dpg D) D.m D.Q := by
  have hs : (F i).s = false := by
    cases e : (F i).s with
    | true => exact absurd (.inl e) hv
    | false => rfl
  have e1 : fA (F i) = 83 := if_neg (by rw [hs]; decide)
  have e2 : cA (F i) (bx i) = #[.pointer (some ⟨bx i, 0, none⟩), .pointer (some ⟨bx i + 1, 0, none⟩)] := if_neg (by rw [hs]; decide)
  have hno : ¬ Wok (F i).b (F i).c ∨ D.m = 200 := by
    by_cases q : Wok (F i).b (F i).c
    · right
      have := hok.2.1
      exact Decidable.byContradiction fun r => hv (.inr ⟨q, by omega⟩)
    · exact .inl q
  have o := h.bo i hi hs
  obtain ⟨vj, o2, o3⟩ := o.b2
  obtain ⟨pj, cj, rfl, -⟩ := id o3
  rw [e1, e2]
  exact st_put_no W (F i).b pj (F i).c cj (by omega) (cell_of o.b1 rfl) (cell_of o2 rfl) hno
set_option maxHeartbeats 16000000 in
theorem im_app_n {v1 v2 : Value} {D D2 : Dd} {po : Option Addr} {no co N : Nat} {F : Nat → Ed} (w : World) (ha : RowD 0 w v1 v2 D) (ho : RowE 3 0 w (.slice po no co) no F) (hno : no ≤ 1048576) (hN : N ≤ no) (hbe : ∀ (W9 W : World) (vs : Value) (bx : Nat → Nat), Kb 0 w W9 → SF W9 F bx N vs W → Calls Try.prog 48 #[.agg #[v1, v2], vs] W fun e w' => e = .returned (.agg #[.slice none 0 0, .slice none 0 0]) ∧ Kb 0 W w') :
    Calls Try.prog 40 #[.agg #[v1, v2], .slice po no co, .int .i64 (N : Int)] w fun e w' => e = .returned (.agg #[.slice none 0 0, .slice none 0 0]) ∧ Kb 0 w w' := by
  obtain ⟨⟨p1, c1, rfl, -⟩, ⟨p2, c2, rfl, -⟩⟩ := id ha
  obtain ⟨w2, hw2⟩ : ∃ w2, w2 = (w.alloc (.cells #[.slice p1 D.n c1, .slice p2 D.m c2] 30)).alloc (.cells #[.slice none 0 0, .slice none 0 0] 30) := ⟨_, rfl⟩
  obtain ⟨b0, b1, z2, k2⟩ := two_newD w _ _ _ _ w2 hw2
  have u0 : w2.cell? ⟨w.heap.size, 0, none⟩ = some (.slice p1 D.n c1) := cell_of b0 rfl
  have u1 : w2.cell? ⟨w.heap.size, 1, none⟩ = some (.slice p2 D.m c2) := cell_of b0 rfl
  have HB : Hid (Kb 0 w w2 ∧ w2.heap[w.heap.size]? = some (.cells #[.slice p1 D.n c1, .slice p2 D.m c2] 30 (0, 0)) ∧ w2.heap[w.heap.size + 1]? = some (.cells #[.slice none 0 0, .slice none 0 0] 30 (0, 0)) ∧ w2.heap.size = w.heap.size + 2) := (⟨k2, b0, b1, z2⟩ : _ ∧ _)
  have HW2 : Hid (w2 = (w.alloc (.cells #[.slice p1 D.n c1, .slice p2 D.m c2] 30)).alloc (.cells #[.slice none 0 0, .slice none 0 0] 30)) := hw2
  have HBE : Hid (∀ (W9 W : World) (vs : Value) (bx : Nat → Nat), Kb 0 w2 W9 → SF W9 F bx N vs W → Calls Try.prog 48 #[.agg #[.slice p1 D.n c1, .slice p2 D.m c2], vs] W fun e w' => e = .returned (.agg #[.slice none 0 0, .slice none 0 0]) ∧ Kb 0 W w') := (fun W9 W vs bx k => hbe W9 W vs bx (k2.trans k) : ∀ (W9 W : World) (vs : Value) (bx : Nat → Nat), _)
  have HSF : Hid (∀ W, Kb 0 w2 W → Calls Try.prog 77 #[.slice po N co] W fun e w' => ∃ vs bx, e = .returned vs ∧ SF W F bx N vs w') := (fun W k => im_steps W (rowE_pre (ho.keep (.inr (.inr rfl)) (k2.trans k)) hN) (by omega) : ∀ W, _)
  have hN0 : ¬ (N : Int) < 0 := by omega
  have hN1 : ¬ (no : Int) < (N : Int) := by omega
  have hNl : N ≤ no := hN
  have hNc : N ≤ co := by
    obtain ⟨pa, ca, e, h2⟩ := ho
    injection e with e1 e2 e3
    by_cases h : 0 < no
    · obtain ⟨a, _, q, _⟩ := h2 h
      omega
    · omega
  have hNcI : (N : Int) ≤ (co : Int) := by omega
  have hx : (decide ((N : Int) < 0) || decide ((no : Int) < (N : Int))) = false := by simp [hN0, hN1]
  have hSS : (fun W' : World => W'.cell? ⟨w.heap.size, 0, none⟩ = some (.slice p1 D.n c1) ∧ W'.cell? ⟨w.heap.size, 1, none⟩ = some (.slice p2 D.m c2)) w2.drew := ⟨u0, u1⟩
  have HSS : Hid ((fun W' : World => W'.cell? ⟨w.heap.size, 0, none⟩ = some (.slice p1 D.n c1) ∧ W'.cell? ⟨w.heap.size, 1, none⟩ = some (.slice p2 D.m c2)) w2.drew) := hSS
  clear hw2 b0 b1 z2 k2 ha hbe u0 u1 hSS ho hno
  go_enter Try.func40, Try.ntmps40
  go_upto_region 1 with fail
  rw [← (show w2 = _ from HW2)]
  clear HW2
  go_upto_region 3 with fail
  refine AnyL.region (S := fun W' => W'.cell? ⟨w.heap.size, 0, none⟩ = some (.slice p1 D.n c1) ∧ W'.cell? ⟨w.heap.size, 1, none⟩ = some (.slice p2 D.m c2)) (z := 6) (by kernel_rfl) ?_
  have hS0 := (show (fun W' : World => W'.cell? ⟨w.heap.size, 0, none⟩ = some (.slice p1 D.n c1) ∧ W'.cell? ⟨w.heap.size, 1, none⟩ = some (.slice p2 D.m c2)) w2.drew from HSS)
  have HKD : Hid (Kb 0 w2 w2.drew) := (Kb.drewN (Kb.refl _ _) 1 : Kb 0 w2 w2.drew)
  obtain ⟨W0, hW0⟩ : ∃ W0, W0 = w2.drew := ⟨_, rfl⟩
  rw [← hW0] at HKD hS0 ⊢
  clear hW0 HSS
  refine AnyL.takeAt 0 (.agg #[.slice p1 D.n c1, .slice p2 D.m c2]) rfl (by kernel_rfl) (by kernel_rfl) (by kernel_rfl) (by kernel_rfl) (fun _ _ _ h => h) rfl hS0 (by intro W hW; first | go_simp | (obtain ⟨i0, i1⟩ := hW; go_simp)) ?_
  try simp only [Act.put, List.setIfInBounds_toArray, List.set_cons_zero, List.set_cons_succ]
  refine AnyL.takeAt 1 (.slice po no co) rfl (by kernel_rfl) (by kernel_rfl) (by kernel_rfl) (by kernel_rfl) (fun _ _ _ h => h) rfl hS0 (by intro W hW; first | go_simp | (obtain ⟨i0, i1⟩ := hW; go_simp)) ?_
  try simp only [Act.put, List.setIfInBounds_toArray, List.set_cons_zero, List.set_cons_succ]
  refine AnyL.takeAt 2 (.int .i64 (N : Int)) rfl (by kernel_rfl) (by kernel_rfl) (by kernel_rfl) (by kernel_rfl) (fun _ _ _ h => h) rfl hS0 (by intro W hW; first | go_simp | (obtain ⟨i0, i1⟩ := hW; go_simp)) ?_
  try simp only [Act.put, List.setIfInBounds_toArray, List.set_cons_zero, List.set_cons_succ]
  refine AnyL.takeAt 3 (.slice po N co) rfl (by kernel_rfl) (by kernel_rfl) (by kernel_rfl) (by kernel_rfl) (fun _ _ _ h => h) rfl hS0 (by intro W hW; first | (go_simp; done) | (obtain ⟨i0, i1⟩ := hW; go_simp; done) | (go_simp; simp [hNc, hNl, addr_zero]; done)) ?_
  try simp only [Act.put, List.setIfInBounds_toArray, List.set_cons_zero, List.set_cons_succ]
  refine AnyL.oneAt 4 rfl (by kernel_rfl) rfl ?_
  intro K hK
  go_simp
  refine ((show ∀ W, Kb 0 w2 W → _ from HSF) W0 HKD).mono ?_
  rintro e W2 ⟨vs, bx, rfl, hsf⟩
  obtain ⟨ps, cs, rfl⟩ := own_shape hsf.ro
  have k22 := (show Kb 0 w2 W0 from HKD).trans hsf.kb
  have HBE2 := (show ∀ (W9 W : World) (vs : Value) (bx : Nat → Nat), _ from HBE) W0 W2 _ bx HKD hsf
  have hS2 : (fun W' : World => W'.cell? ⟨w.heap.size, 0, none⟩ = some (.slice p1 D.n c1) ∧ W'.cell? ⟨w.heap.size, 1, none⟩ = some (.slice p2 D.m c2)) W2 := ⟨hsf.kb.cell hS0.1, hsf.kb.cell hS0.2⟩
  have HK22 : Hid (Kb 0 w2 W2) := k22
  clear hsf k22 hS0 HKD HBE HSF
  refine hK.out _ _ (fun _ => hS2) ?_
  clear hK K
  try simp only [Act.put, List.setIfInBounds_toArray, List.set_cons_zero, List.set_cons_succ]
  refine AnyL.oneAt 5 rfl (by kernel_rfl) rfl ?_
  intro K hK
  go_simp
  refine HBE2.mono ?_
  rintro e W5 ⟨rfl, k5⟩
  have hS5 : (fun W' : World => W'.cell? ⟨w.heap.size, 0, none⟩ = some (.slice p1 D.n c1) ∧ W'.cell? ⟨w.heap.size, 1, none⟩ = some (.slice p2 D.m c2)) W5 := ⟨k5.cell hS2.1, k5.cell hS2.2⟩
  have k25 := (show Kb 0 w2 W2 from HK22).trans k5
  obtain ⟨kw2, b0, b1, z2⟩ := (show _ ∧ _ ∧ _ ∧ _ from HB)
  have r := (k25.block (w.heap.size + 1) (Nat.zero_le _) (by omega)).trans b1
  have a0 : W5.cell? ⟨w.heap.size + 1, 0, none⟩ = some (.slice none 0 0) := cell_of r rfl
  have a1 : W5.cell? ⟨w.heap.size + 1, 1, none⟩ = some (.slice none 0 0) := cell_of r rfl
  have fy : ∀ j, W5.frozen? ⟨w.heap.size + 1, j, none⟩ = false := fun j => frozen_of r
  obtain ⟨WF, hWF⟩ : ∃ WF, WF = (W5.setCell ⟨w.heap.size + 1, 0, none⟩ (.slice none 0 0)).setCell ⟨w.heap.size + 1, 1, none⟩ (.slice none 0 0) := ⟨_, rfl⟩
  have zF : WF.heap.size = W5.heap.size := by rw [hWF]; simp
  have bF : ∀ q, q ≠ w.heap.size + 1 → WF.heap[q]? = W5.heap[q]? := fun q hq => by
    rw [hWF, Below.heap_setCell _ _ _ _ (show q ≠ w.heap.size + 1 from hq), Below.heap_setCell _ _ _ _ (show q ≠ w.heap.size + 1 from hq)]
  have rF : WF.heap[w.heap.size + 1]? = some (.cells #[.slice none 0 0, .slice none 0 0] 30 (0, 0)) := by
    rw [hWF]
    exact set_known _ (set_known _ r)
  have f3 : WF.cell? ⟨w.heap.size + 1, 0, none⟩ = some (.slice none 0 0) := cell_of rF rfl
  have f4 : WF.cell? ⟨w.heap.size + 1, 1, none⟩ = some (.slice none 0 0) := cell_of rF rfl
  have kF : Kb 0 w WF := by rw [hWF]; exact ((kw2.trans k25).setCell _ (.inr (by show _ ≤ w.heap.size + 1; omega)) _).setCell _ (.inr (by show _ ≤ w.heap.size + 1; omega)) _
  have HF : Hid (Kb 0 w WF) := kF
  have HWF : Hid (WF = _) := hWF
  clear HBE2 k5 hS2 kw2 b0 b1 z2 k25 r zF bF rF hWF kF
  refine hK.out _ _ (fun _ => hS5) ?_
  clear hK K hS5
  try simp only [Act.put, List.setIfInBounds_toArray, List.set_cons_zero, List.set_cons_succ]
  refine AnyL.oneAt 6 rfl (by kernel_rfl) rfl ?_
  intro K hK
  go_simp
  rw [← (show WF = _ from HWF)]
  clear HWF
  refine hK.out _ _ (fun h => absurd rfl h) ?_
  clear hK K
  try simp only [Act.put, List.setIfInBounds_toArray, List.set_cons_zero, List.set_cons_succ]
  refine AnyL.done (by kernel_rfl) ?_
  go_wp2_with fail
  refine bodyPost_ret (by simp [results, Try.results40, go_sem, f3, f4]; rfl) rfl ?_
  exact ⟨rfl, HF⟩
set_option maxHeartbeats 16000000 in
theorem im_app_y {v1 v2 : Value} {D D2 : Dd} {po : Option Addr} {no co N : Nat} {F : Nat → Ed} (w : World) (ha : RowD 0 w v1 v2 D) (ho : RowE 3 0 w (.slice po no co) no F) (hno : no ≤ 1048576) (hN : N ≤ no) (hbe : ∀ (W9 W : World) (vs : Value) (bx : Nat → Nat), Kb 0 w W9 → SF W9 F bx N vs W → Calls Try.prog 48 #[.agg #[v1, v2], vs] W fun e w' => ∃ u1 u2, e = .returned (.agg #[u1, u2]) ∧ OwD W.heap.size w'.heap.size w' u1 u2 D2 ∧ Kb 0 W w') :
    Calls Try.prog 40 #[.agg #[v1, v2], .slice po no co, .int .i64 (N : Int)] w fun e w' => ∃ u1 u2, e = .returned (.agg #[u1, u2]) ∧ OwD w.heap.size w'.heap.size w' u1 u2 D2 ∧ Kb 0 w w' := by
  obtain ⟨⟨p1, c1, rfl, -⟩, ⟨p2, c2, rfl, -⟩⟩ := id ha
  obtain ⟨w2, hw2⟩ : ∃ w2, w2 = (w.alloc (.cells #[.slice p1 D.n c1, .slice p2 D.m c2] 30)).alloc (.cells #[.slice none 0 0, .slice none 0 0] 30) := ⟨_, rfl⟩
  obtain ⟨b0, b1, z2, k2⟩ := two_newD w _ _ _ _ w2 hw2
  have u0 : w2.cell? ⟨w.heap.size, 0, none⟩ = some (.slice p1 D.n c1) := cell_of b0 rfl
  have u1 : w2.cell? ⟨w.heap.size, 1, none⟩ = some (.slice p2 D.m c2) := cell_of b0 rfl
  have HB : Hid (Kb 0 w w2 ∧ w2.heap[w.heap.size]? = some (.cells #[.slice p1 D.n c1, .slice p2 D.m c2] 30 (0, 0)) ∧ w2.heap[w.heap.size + 1]? = some (.cells #[.slice none 0 0, .slice none 0 0] 30 (0, 0)) ∧ w2.heap.size = w.heap.size + 2) := (⟨k2, b0, b1, z2⟩ : _ ∧ _)
  have HW2 : Hid (w2 = (w.alloc (.cells #[.slice p1 D.n c1, .slice p2 D.m c2] 30)).alloc (.cells #[.slice none 0 0, .slice none 0 0] 30)) := hw2
  have HBE : Hid (∀ (W9 W : World) (vs : Value) (bx : Nat → Nat), Kb 0 w2 W9 → SF W9 F bx N vs W → Calls Try.prog 48 #[.agg #[.slice p1 D.n c1, .slice p2 D.m c2], vs] W fun e w' => ∃ u1 u2, e = .returned (.agg #[u1, u2]) ∧ OwD W.heap.size w'.heap.size w' u1 u2 D2 ∧ Kb 0 W w') := (fun W9 W vs bx k => hbe W9 W vs bx (k2.trans k) : ∀ (W9 W : World) (vs : Value) (bx : Nat → Nat), _)
  have HSF : Hid (∀ W, Kb 0 w2 W → Calls Try.prog 77 #[.slice po N co] W fun e w' => ∃ vs bx, e = .returned vs ∧ SF W F bx N vs w') := (fun W k => im_steps W (rowE_pre (ho.keep (.inr (.inr rfl)) (k2.trans k)) hN) (by omega) : ∀ W, _)
  have hN0 : ¬ (N : Int) < 0 := by omega
  have hN1 : ¬ (no : Int) < (N : Int) := by omega
  have hNl : N ≤ no := hN
  have hNc : N ≤ co := by
    obtain ⟨pa, ca, e, h2⟩ := ho
    injection e with e1 e2 e3
    by_cases h : 0 < no
    · obtain ⟨a, _, q, _⟩ := h2 h
      omega
    · omega
  have hNcI : (N : Int) ≤ (co : Int) := by omega
  have hx : (decide ((N : Int) < 0) || decide ((no : Int) < (N : Int))) = false := by simp [hN0, hN1]
  have hSS : (fun W' : World => W'.cell? ⟨w.heap.size, 0, none⟩ = some (.slice p1 D.n c1) ∧ W'.cell? ⟨w.heap.size, 1, none⟩ = some (.slice p2 D.m c2)) w2.drew := ⟨u0, u1⟩
  have HSS : Hid ((fun W' : World => W'.cell? ⟨w.heap.size, 0, none⟩ = some (.slice p1 D.n c1) ∧ W'.cell? ⟨w.heap.size, 1, none⟩ = some (.slice p2 D.m c2)) w2.drew) := hSS
  clear hw2 b0 b1 z2 k2 ha hbe u0 u1 hSS ho hno
  go_enter Try.func40, Try.ntmps40
  go_upto_region 1 with fail
  rw [← (show w2 = _ from HW2)]
  clear HW2
  go_upto_region 3 with fail
  refine AnyL.region (S := fun W' => W'.cell? ⟨w.heap.size, 0, none⟩ = some (.slice p1 D.n c1) ∧ W'.cell? ⟨w.heap.size, 1, none⟩ = some (.slice p2 D.m c2)) (z := 6) (by kernel_rfl) ?_
  have hS0 := (show (fun W' : World => W'.cell? ⟨w.heap.size, 0, none⟩ = some (.slice p1 D.n c1) ∧ W'.cell? ⟨w.heap.size, 1, none⟩ = some (.slice p2 D.m c2)) w2.drew from HSS)
  have HKD : Hid (Kb 0 w2 w2.drew) := (Kb.drewN (Kb.refl _ _) 1 : Kb 0 w2 w2.drew)
  obtain ⟨W0, hW0⟩ : ∃ W0, W0 = w2.drew := ⟨_, rfl⟩
  rw [← hW0] at HKD hS0 ⊢
  clear hW0 HSS
  refine AnyL.takeAt 0 (.agg #[.slice p1 D.n c1, .slice p2 D.m c2]) rfl (by kernel_rfl) (by kernel_rfl) (by kernel_rfl) (by kernel_rfl) (fun _ _ _ h => h) rfl hS0 (by intro W hW; first | go_simp | (obtain ⟨i0, i1⟩ := hW; go_simp)) ?_
  try simp only [Act.put, List.setIfInBounds_toArray, List.set_cons_zero, List.set_cons_succ]
  refine AnyL.takeAt 1 (.slice po no co) rfl (by kernel_rfl) (by kernel_rfl) (by kernel_rfl) (by kernel_rfl) (fun _ _ _ h => h) rfl hS0 (by intro W hW; first | go_simp | (obtain ⟨i0, i1⟩ := hW; go_simp)) ?_
  try simp only [Act.put, List.setIfInBounds_toArray, List.set_cons_zero, List.set_cons_succ]
  refine AnyL.takeAt 2 (.int .i64 (N : Int)) rfl (by kernel_rfl) (by kernel_rfl) (by kernel_rfl) (by kernel_rfl) (fun _ _ _ h => h) rfl hS0 (by intro W hW; first | go_simp | (obtain ⟨i0, i1⟩ := hW; go_simp)) ?_
  try simp only [Act.put, List.setIfInBounds_toArray, List.set_cons_zero, List.set_cons_succ]
  refine AnyL.takeAt 3 (.slice po N co) rfl (by kernel_rfl) (by kernel_rfl) (by kernel_rfl) (by kernel_rfl) (fun _ _ _ h => h) rfl hS0 (by intro W hW; first | (go_simp; done) | (obtain ⟨i0, i1⟩ := hW; go_simp; done) | (go_simp; simp [hNc, hNl, addr_zero]; done)) ?_
  try simp only [Act.put, List.setIfInBounds_toArray, List.set_cons_zero, List.set_cons_succ]
  refine AnyL.oneAt 4 rfl (by kernel_rfl) rfl ?_
  intro K hK
  go_simp
  refine ((show ∀ W, Kb 0 w2 W → _ from HSF) W0 HKD).mono ?_
  rintro e W2 ⟨vs, bx, rfl, hsf⟩
  obtain ⟨ps, cs, rfl⟩ := own_shape hsf.ro
  have k22 := (show Kb 0 w2 W0 from HKD).trans hsf.kb
  have HBE2 := (show ∀ (W9 W : World) (vs : Value) (bx : Nat → Nat), _ from HBE) W0 W2 _ bx HKD hsf
  have hS2 : (fun W' : World => W'.cell? ⟨w.heap.size, 0, none⟩ = some (.slice p1 D.n c1) ∧ W'.cell? ⟨w.heap.size, 1, none⟩ = some (.slice p2 D.m c2)) W2 := ⟨hsf.kb.cell hS0.1, hsf.kb.cell hS0.2⟩
  have HK22 : Hid (Kb 0 w2 W2) := k22
  clear hsf k22 hS0 HKD HBE HSF
  refine hK.out _ _ (fun _ => hS2) ?_
  clear hK K
  try simp only [Act.put, List.setIfInBounds_toArray, List.set_cons_zero, List.set_cons_succ]
  refine AnyL.oneAt 5 rfl (by kernel_rfl) rfl ?_
  intro K hK
  go_simp
  refine HBE2.mono ?_
  rintro e W5 ⟨y1, y2, rfl, o5, k5⟩
  obtain ⟨s1, e1, s2, e2, rfl, rfl⟩ := o5.shape
  have hS5 : (fun W' : World => W'.cell? ⟨w.heap.size, 0, none⟩ = some (.slice p1 D.n c1) ∧ W'.cell? ⟨w.heap.size, 1, none⟩ = some (.slice p2 D.m c2)) W5 := ⟨k5.cell hS2.1, k5.cell hS2.2⟩
  have k25 := (show Kb 0 w2 W2 from HK22).trans k5
  obtain ⟨kw2, b0, b1, z2⟩ := (show _ ∧ _ ∧ _ ∧ _ from HB)
  have r := (k25.block (w.heap.size + 1) (Nat.zero_le _) (by omega)).trans b1
  have a0 : W5.cell? ⟨w.heap.size + 1, 0, none⟩ = some (.slice none 0 0) := cell_of r rfl
  have a1 : W5.cell? ⟨w.heap.size + 1, 1, none⟩ = some (.slice none 0 0) := cell_of r rfl
  have fy : ∀ j, W5.frozen? ⟨w.heap.size + 1, j, none⟩ = false := fun j => frozen_of r
  obtain ⟨WF, hWF⟩ : ∃ WF, WF = (W5.setCell ⟨w.heap.size + 1, 0, none⟩ (.slice s1 D2.n e1)).setCell ⟨w.heap.size + 1, 1, none⟩ (.slice s2 D2.m e2) := ⟨_, rfl⟩
  have zF : WF.heap.size = W5.heap.size := by rw [hWF]; simp
  have bF : ∀ q, q ≠ w.heap.size + 1 → WF.heap[q]? = W5.heap[q]? := fun q hq => by
    rw [hWF, Below.heap_setCell _ _ _ _ (show q ≠ w.heap.size + 1 from hq), Below.heap_setCell _ _ _ _ (show q ≠ w.heap.size + 1 from hq)]
  have rF : WF.heap[w.heap.size + 1]? = some (.cells #[.slice s1 D2.n e1, .slice s2 D2.m e2] 30 (0, 0)) := by
    rw [hWF]
    exact set_known _ (set_known _ r)
  have f3 : WF.cell? ⟨w.heap.size + 1, 0, none⟩ = some (.slice s1 D2.n e1) := cell_of rF rfl
  have f4 : WF.cell? ⟨w.heap.size + 1, 1, none⟩ = some (.slice s2 D2.m e2) := cell_of rF rfl
  have kF : Kb 0 w WF := by rw [hWF]; exact ((kw2.trans k25).setCell _ (.inr (by show _ ≤ w.heap.size + 1; omega)) _).setCell _ (.inr (by show _ ≤ w.heap.size + 1; omega)) _
  have oF : OwD w.heap.size WF.heap.size WF (.slice s1 D2.n e1) (.slice s2 D2.m e2) D2 := by
    rw [zF]
    have := (show Kb 0 w2 W2 from HK22).size
    exact (o5.block (fun q h1 h2 => bF q (by omega))).wide (by omega) (Nat.le_refl _)
  have HF : Hid (OwD w.heap.size WF.heap.size WF (.slice s1 D2.n e1) (.slice s2 D2.m e2) D2 ∧ Kb 0 w WF) := (⟨oF, kF⟩ : _ ∧ _)
  have HWF : Hid (WF = _) := hWF
  clear HBE2 o5 k5 hS2 kw2 b0 b1 z2 k25 r zF bF rF hWF oF kF
  refine hK.out _ _ (fun _ => hS5) ?_
  clear hK K hS5
  try simp only [Act.put, List.setIfInBounds_toArray, List.set_cons_zero, List.set_cons_succ]
  refine AnyL.oneAt 6 rfl (by kernel_rfl) rfl ?_
  intro K hK
  go_simp
  rw [← (show WF = _ from HWF)]
  clear HWF
  refine hK.out _ _ (fun h => absurd rfl h) ?_
  clear hK K
  try simp only [Act.put, List.setIfInBounds_toArray, List.set_cons_zero, List.set_cons_succ]
  refine AnyL.done (by kernel_rfl) ?_
  go_wp2_with fail
  refine bodyPost_ret (by simp [results, Try.results40, go_sem, f3, f4]; rfl) rfl ?_
  exact ⟨_, _, rfl, HF⟩
set_option maxHeartbeats 8000000 in
theorem im_app_o1 {v1 v2 : Value} {D : Dd} {po : Option Addr} {no co : Nat} {b : Int} (w : World) (ha : RowD 0 w v1 v2 D) (hb : b < 0) :
    Calls Try.prog 40 #[.agg #[v1, v2], .slice po no co, .int .i64 b] w fun e w' => e = .returned (.agg #[.slice none 0 0, .slice none 0 0]) ∧ Kb 0 w w' := by
  obtain ⟨⟨p1, c1, rfl, -⟩, ⟨p2, c2, rfl, -⟩⟩ := id ha
  obtain ⟨w2, hw2⟩ : ∃ w2, w2 = (w.alloc (.cells #[.slice p1 D.n c1, .slice p2 D.m c2] 30)).alloc (.cells #[.slice none 0 0, .slice none 0 0] 30) := ⟨_, rfl⟩
  obtain ⟨b0, b1, z2, k2⟩ := two_newD w _ _ _ _ w2 hw2
  have u0 : w2.cell? ⟨w.heap.size, 0, none⟩ = some (.slice p1 D.n c1) := cell_of b0 rfl
  have u1 : w2.cell? ⟨w.heap.size, 1, none⟩ = some (.slice p2 D.m c2) := cell_of b0 rfl
  have HB : Hid (Kb 0 w w2 ∧ w2.heap[w.heap.size]? = some (.cells #[.slice p1 D.n c1, .slice p2 D.m c2] 30 (0, 0)) ∧ w2.heap[w.heap.size + 1]? = some (.cells #[.slice none 0 0, .slice none 0 0] 30 (0, 0)) ∧ w2.heap.size = w.heap.size + 2) := (⟨k2, b0, b1, z2⟩ : _ ∧ _)
  have HW2 : Hid (w2 = (w.alloc (.cells #[.slice p1 D.n c1, .slice p2 D.m c2] 30)).alloc (.cells #[.slice none 0 0, .slice none 0 0] 30)) := hw2
  have k3 := Kb.refl 0 w2
  have r := (k3.block (w.heap.size + 1) (Nat.zero_le _) (by omega)).trans b1
  have a0 : w2.cell? ⟨w.heap.size + 1, 0, none⟩ = some (.slice none 0 0) := cell_of r rfl
  have a1 : w2.cell? ⟨w.heap.size + 1, 1, none⟩ = some (.slice none 0 0) := cell_of r rfl
  have fy : ∀ j, w2.frozen? ⟨w.heap.size + 1, j, none⟩ = false := fun j => frozen_of r
  obtain ⟨WF, hWF⟩ : ∃ WF, WF = (w2.setCell ⟨w.heap.size + 1, 0, none⟩ (.slice none 0 0)).setCell ⟨w.heap.size + 1, 1, none⟩ (.slice none 0 0) := ⟨_, rfl⟩
  have zF : WF.heap.size = w2.heap.size := by rw [hWF]; simp
  have bF : ∀ q, q ≠ w.heap.size + 1 → WF.heap[q]? = w2.heap[q]? := fun q hq => by
    rw [hWF, Below.heap_setCell _ _ _ _ (show q ≠ w.heap.size + 1 from hq), Below.heap_setCell _ _ _ _ (show q ≠ w.heap.size + 1 from hq)]
  have rF : WF.heap[w.heap.size + 1]? = some (.cells #[.slice none 0 0, .slice none 0 0] 30 (0, 0)) := by
    rw [hWF]
    exact set_known _ (set_known _ r)
  have f3 : WF.cell? ⟨w.heap.size + 1, 0, none⟩ = some (.slice none 0 0) := cell_of rF rfl
  have f4 : WF.cell? ⟨w.heap.size + 1, 1, none⟩ = some (.slice none 0 0) := cell_of rF rfl
  have kF : Kb 0 w WF := by rw [hWF]; exact ((k2).setCell _ (.inr (by show _ ≤ w.heap.size + 1; omega)) _).setCell _ (.inr (by show _ ≤ w.heap.size + 1; omega)) _
  have HF : Hid (Kb 0 w WF) := kF
  have HWF : Hid (WF = _) := hWF
  clear hw2 b0 b1 z2 k2 ha u0 u1 HB r k3 zF bF rF kF hWF
  go_enter Try.func40, Try.ntmps40
  go_upto_region 1 with fail
  rw [← (show w2 = _ from HW2)]
  clear HW2
  go_wp2_with fail
  rw [← (show WF = _ from HWF)]
  clear HWF
  refine bodyPost_ret (by simp [results, Try.results40, go_sem, f3, f4]; rfl) rfl ?_
  exact ⟨rfl, HF⟩
set_option maxHeartbeats 8000000 in
theorem im_app_o2 {v1 v2 : Value} {D : Dd} {po : Option Addr} {no co : Nat} {b : Int} (w : World) (ha : RowD 0 w v1 v2 D) (hb : 0 ≤ b) (hb2 : (no : Int) < b) :
    Calls Try.prog 40 #[.agg #[v1, v2], .slice po no co, .int .i64 b] w fun e w' => e = .returned (.agg #[.slice none 0 0, .slice none 0 0]) ∧ Kb 0 w w' := by
  obtain ⟨⟨p1, c1, rfl, -⟩, ⟨p2, c2, rfl, -⟩⟩ := id ha
  obtain ⟨w2, hw2⟩ : ∃ w2, w2 = (w.alloc (.cells #[.slice p1 D.n c1, .slice p2 D.m c2] 30)).alloc (.cells #[.slice none 0 0, .slice none 0 0] 30) := ⟨_, rfl⟩
  obtain ⟨b0, b1, z2, k2⟩ := two_newD w _ _ _ _ w2 hw2
  have u0 : w2.cell? ⟨w.heap.size, 0, none⟩ = some (.slice p1 D.n c1) := cell_of b0 rfl
  have u1 : w2.cell? ⟨w.heap.size, 1, none⟩ = some (.slice p2 D.m c2) := cell_of b0 rfl
  have HB : Hid (Kb 0 w w2 ∧ w2.heap[w.heap.size]? = some (.cells #[.slice p1 D.n c1, .slice p2 D.m c2] 30 (0, 0)) ∧ w2.heap[w.heap.size + 1]? = some (.cells #[.slice none 0 0, .slice none 0 0] 30 (0, 0)) ∧ w2.heap.size = w.heap.size + 2) := (⟨k2, b0, b1, z2⟩ : _ ∧ _)
  have HW2 : Hid (w2 = (w.alloc (.cells #[.slice p1 D.n c1, .slice p2 D.m c2] 30)).alloc (.cells #[.slice none 0 0, .slice none 0 0] 30)) := hw2
  have k3 := Kb.refl 0 w2
  have r := (k3.block (w.heap.size + 1) (Nat.zero_le _) (by omega)).trans b1
  have a0 : w2.cell? ⟨w.heap.size + 1, 0, none⟩ = some (.slice none 0 0) := cell_of r rfl
  have a1 : w2.cell? ⟨w.heap.size + 1, 1, none⟩ = some (.slice none 0 0) := cell_of r rfl
  have fy : ∀ j, w2.frozen? ⟨w.heap.size + 1, j, none⟩ = false := fun j => frozen_of r
  obtain ⟨WF, hWF⟩ : ∃ WF, WF = (w2.setCell ⟨w.heap.size + 1, 0, none⟩ (.slice none 0 0)).setCell ⟨w.heap.size + 1, 1, none⟩ (.slice none 0 0) := ⟨_, rfl⟩
  have zF : WF.heap.size = w2.heap.size := by rw [hWF]; simp
  have bF : ∀ q, q ≠ w.heap.size + 1 → WF.heap[q]? = w2.heap[q]? := fun q hq => by
    rw [hWF, Below.heap_setCell _ _ _ _ (show q ≠ w.heap.size + 1 from hq), Below.heap_setCell _ _ _ _ (show q ≠ w.heap.size + 1 from hq)]
  have rF : WF.heap[w.heap.size + 1]? = some (.cells #[.slice none 0 0, .slice none 0 0] 30 (0, 0)) := by
    rw [hWF]
    exact set_known _ (set_known _ r)
  have f3 : WF.cell? ⟨w.heap.size + 1, 0, none⟩ = some (.slice none 0 0) := cell_of rF rfl
  have f4 : WF.cell? ⟨w.heap.size + 1, 1, none⟩ = some (.slice none 0 0) := cell_of rF rfl
  have kF : Kb 0 w WF := by rw [hWF]; exact ((k2).setCell _ (.inr (by show _ ≤ w.heap.size + 1; omega)) _).setCell _ (.inr (by show _ ≤ w.heap.size + 1; omega)) _
  have HF : Hid (Kb 0 w WF) := kF
  have HWF : Hid (WF = _) := hWF
  clear hw2 b0 b1 z2 k2 ha u0 u1 HB r k3 zF bF rF kF hWF
  go_enter Try.func40, Try.ntmps40
  go_upto_region 1 with fail
  rw [← (show w2 = _ from HW2)]
  clear HW2
  go_wp2_with fail
  rw [← (show WF = _ from HWF)]
  clear HWF
  refine bodyPost_ret (by simp [results, Try.results40, go_sem, f3, f4]; rfl) rfl ?_
  exact ⟨rfl, HF⟩
theorem im_Apply_yes {v1 v2 : Value} {D : Dd} {po : Option Addr} {no co N : Nat} {F : Nat → Ed} (w : World) (ha : RowD 0 w v1 v2 D) (hd : BdD D) (ho : RowE 3 0 w (.slice po no co) no F) (hno : no ≤ 1048576) (hN : N ≤ no) (hok : Dok D) (hv : ∀ i, i < N → Vo (sqD D F i) (F i)) :
    Calls Try.prog 40 #[.agg #[v1, v2], .slice po no co, .int .i64 (N : Int)] w fun e w' => ∃ u1 u2, e = .returned (.agg #[u1, u2]) ∧ OwD w.heap.size w'.heap.size w' u1 u2 ⟨258, pE (dpg (sqD D F N)), (sqD D F N).m, qE (sqD D F N).Q⟩ ∧ Kb 0 w w' := by
  refine im_app_y w ha ho hno hN (fun W9 W vs bx k hsf => ?_)
  exact im_behind_yes (f := fun i => fA (F i)) (cs := fun i => cA (F i) (bx i)) (P := fun i => dpg (sqD D F i)) (m := fun i => (sqD D F i).m) (Q := fun i => (sqD D F i).Q) W (ha.keep (k.trans hsf.kb)) hd hok N (by omega) (fun w2 dv vw wr k h => im_disk wr h (dok_sq hok N hv).2.1) ⟨rfl, rfl, rfl⟩ hsf.row (fun i hi => st_op hsf hi (dok_sq hok i (fun j hj => hv j (by omega))) (hv i hi))
theorem im_Apply_bad {v1 v2 : Value} {D : Dd} {po : Option Addr} {no co N K : Nat} {F : Nat → Ed} (w : World) (ha : RowD 0 w v1 v2 D) (hd : BdD D) (ho : RowE 3 0 w (.slice po no co) no F) (hno : no ≤ 1048576) (hF : ∀ i, i < no → (F i).c ≤ 1048576) (hN : N ≤ no) (hok : Dok D) (hK : K < N) (hv : ∀ i, i < K → Vo (sqD D F i) (F i)) (hbad : ¬ Vo (sqD D F K) (F K)) :
    Calls Try.prog 40 #[.agg #[v1, v2], .slice po no co, .int .i64 (N : Int)] w fun e w' => e = .returned (.agg #[.slice none 0 0, .slice none 0 0]) ∧ Kb 0 w w' := by
  refine im_app_n (D2 := D) w ha ho hno hN (fun W9 W vs bx k hsf => ?_)
  exact im_behind_stop (f := fun i => fA (F i)) (cs := fun i => cA (F i) (bx i)) (P := fun i => dpg (sqD D F i)) (m := fun i => (sqD D F i).m) (Q := fun i => (sqD D F i).Q) W (ha.keep (k.trans hsf.kb)) hd hok N (by omega) K hK (st_op_no hsf hK (dok_sq hok K hv) (hF K (by omega)) hbad) ⟨rfl, rfl, rfl⟩ hsf.row (fun i hi => st_op hsf (by omega) (dok_sq hok i (fun j hj => hv j (by omega))) (hv i hi))
theorem im_Apply_no {v1 v2 : Value} {D : Dd} {po : Option Addr} {no co N : Nat} {F : Nat → Ed} (w : World) (ha : RowD 0 w v1 v2 D) (hd : BdD D) (ho : RowE 3 0 w (.slice po no co) no F) (hno : no ≤ 1048576) (hN : N ≤ no) (hok : ¬ Dok D) :
    Calls Try.prog 40 #[.agg #[v1, v2], .slice po no co, .int .i64 (N : Int)] w fun e w' => e = .returned (.agg #[.slice none 0 0, .slice none 0 0]) ∧ Kb 0 w w' := by
  refine im_app_n (D2 := D) w ha ho hno hN (fun W9 W vs bx k hsf => ?_)
  exact im_behind_no W (ha.keep (k.trans hsf.kb)) hd hok
end Go.Proofs.Ytiojjejphdhpeaa.Fo
