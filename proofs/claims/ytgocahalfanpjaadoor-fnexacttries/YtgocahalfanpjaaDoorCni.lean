import Derived.Test.YtgocahalfanpjaaDoorCnh
import Derived.RangeFuncFrom
import Derived.RangeFuncLeaves
import Derived.RangeFuncCalls
import Derived.OwnWalkIn
import Derived.TacticsInMore
import Derived.LoopNIn
import Derived.LoopIn
import Derived.Shelf.Abstract
namespace Go.Proofs.YtgocahalfanpjaaDoor.Fo
open Go.ChangeShapes Go.WideShapes Go.ChangeAt Go.RowKit Go.Shelf
set_option linter.unusedVariables false
set_option maxRecDepth 100000
attribute [local go_sem] Oper.semAt_some
/-- all but block B is kept -/
structure Kx (B : Nat) (a w : World) : Prop where
  os : w.os = a.os
  output : w.output = a.output
  size : a.heap.size ≤ w.heap.size
  block : ∀ i, i < a.heap.size → i ≠ B → w.heap[i]? = a.heap[i]?

theorem Kx.set (B : Nat) (w : World) (v : Value) : Kx B w (w.setCell ⟨B, 0, none⟩ v) :=
  ⟨rfl, rfl, by simp, fun k _ hk => Below.heap_setCell w _ v k (fun e => hk e)⟩
/-- the three boxes of a function that cuts -/
def Bx3 (a b c : Nat) (W W' : World) : Prop := W'.heap[a]? = W.heap[a]? ∧ W'.heap[b]? = W.heap[b]? ∧ W'.heap[c]? = W.heap[c]?
def Bxs (a b c : Nat) (r : List UInt8) (W : World) : Prop := W.heap[a]? = some (.cells #[.string ⟨#[47]⟩] 9 (0, 0)) ∧ W.heap[b]? = some (.cells #[.string (bt r)] 9 (0, 0)) ∧ W.heap[c]? = some (.cells #[.int .i64 0] 3 (0, 0)) ∧ a ≠ b ∧ c ≠ b
theorem Bxs.keep {a b c : Nat} {r : List UInt8} {W W' : World} (h : Bxs a b c r W) (k : Bx3 a b c W W') : Bxs a b c r W' := ⟨k.1.trans h.1, k.2.1.trans h.2.1, k.2.2.trans h.2.2.1, h.2.2.2⟩
theorem set_box {X : World} {b : Nat} {t : TypeId} {u v : Value} (h : X.heap[b]? = some (.cells #[u] t (0, 0))) : (X.setCell ⟨b, 0, none⟩ v).heap[b]? = some (.cells #[v] t (0, 0)) := by
  simp [World.setCell, Array.getElem?_modify, h]
theorem Bxs.set {a b c : Nat} {r : List UInt8} {W : World} (h : Bxs a b c r W) (s : List UInt8) : Bxs a b c s (W.setCell ⟨b, 0, none⟩ (.string (bt s))) :=
  ⟨(Below.heap_setCell W _ _ a (fun e => h.2.2.2.1 e)).trans h.1, set_box h.2.1, (Below.heap_setCell W _ _ c (fun e => h.2.2.2.2 e)).trans h.2.2.1, h.2.2.2⟩
theorem sl_hi {r : List UInt8} {k : Nat} (h : k ≤ r.length) (W : World) : (Instr.slice 9 (.string (bt r)) none (some (.int .i64 (k : Int))) none).run Tryd.prog W = .ok (.string (bt (r.take k))) W := by
  rw [run_slice_string_h W 9 (bt r) Tryd.underlying9 .i64 (k : Int) (by omega) (by rw [bt_size]; omega), Int.toNat_natCast]
  unfold bt
  rw [ByteArray.extract_mk]
  simp
theorem sl_lo {r : List UInt8} {k : Nat} (h : k + 1 ≤ r.length) (W : World) : (Instr.slice 9 (.string (bt r)) (some (.int .i64 ((k : Int) + 1))) none none).run Tryd.prog W = .ok (.string (bt (r.drop (k + 1)))) W := by
  rw [run_slice_string_l W 9 (bt r) Tryd.underlying9 .i64 ((k : Int) + 1) (by omega) (by rw [bt_size]; omega), show ((k : Int) + 1).toNat = k + 1 by omega, bt_size]
  unfold bt
  rw [ByteArray.extract_mk]
  simp
  exact List.take_of_length_le (by simp)
def cLen (B : Nat) (W : World) : Nat := match W.cell? ⟨B, 0, none⟩ with | some (.string s) => s.size | _ => 0
theorem cLen_of {B : Nat} {W : World} {r : List UInt8} (h : W.cell? ⟨B, 0, none⟩ = some (.string (bt r))) : cLen B W = r.length := by
  unfold cLen; rw [h]; exact bt_size r
set_option maxHeartbeats 8000000 in
theorem split_in (n : Nat) (hn : 1 ≤ n) (lp Ba Bb Bc : Nat) {l : List UInt8} (hl : l.length ≤ 60) (J Jx : List (List UInt8) → World → Prop)
    (hJK : ∀ pre W W', J pre W → Kx Bb W W' → J pre W')
    (hY : ∀ pre x W, J pre W → (∃ more, spB l = pre ++ x :: more) → YieldAt Fence.wide (n - 1) Tryd.prog lp #[.string (bt x)] W fun e W' =>
      (e = .returned (.bool true) ∧ J (pre ++ [x]) W' ∧ Bx3 Ba Bb Bc W W') ∨ (e = .returned (.bool false) ∧ Jx (pre ++ [x]) W'))
    (W : World) (hB : Bxs Ba Bb Bc l W) (h0 : J [] W) :
    CallsIn Fence.wide n Tryd.prog 50 #[.func (.yield lp) #[] #[], .pointer (some ⟨Ba, 0, none⟩), .pointer (some ⟨Bb, 0, none⟩), .pointer (some ⟨Bc, 0, none⟩)] W fun e W' => (∃ v, e = .returned v) ∧
      (J (spB l) W' ∨ (∃ pre, Jx pre W')) := by
  have HY : Hid (∀ pre x W, J pre W → (∃ more, spB l = pre ++ x :: more) → YieldAt Fence.wide (n - 1) Tryd.prog lp #[.string (bt x)] W fun e W' =>
      (e = .returned (.bool true) ∧ J (pre ++ [x]) W' ∧ Bx3 Ba Bb Bc W W') ∨ (e = .returned (.bool false) ∧ Jx (pre ++ [x]) W')) := hY
  have HJK : Hid (∀ pre W W', J pre W → Kx Bb W W' → J pre W') := hJK
  have HST : Hid (Bxs Ba Bb Bc l W ∧ J [] W) := (⟨hB, h0⟩ : _ ∧ _)
  have c0 : W.cell? ⟨Ba, 0, none⟩ = some (.string ⟨#[47]⟩) := cell_of hB.1 rfl
  have hlI : (l.length : Int) ≤ 60 := by omega
  clear hY hJK hB h0
  refine callsIn_of_wp Tryd.func50 rfl trivial ?_ rfl
  simp only [Tryd.ntmps50, List.size_toArray, List.length_cons, List.length_nil, Nat.reduceAdd, Nat.reduceSub, Array.replicate_succ, Array.replicate_zero, List.push_toArray, List.append_toArray, List.nil_append, List.cons_append]
  gi_wp2_with fail
  gi_loopw [7] (fun s7 wr => ∃ (pre : List (List UInt8)) (r : List UInt8), r.length ≤ 60 ∧ Hid (spB l = pre ++ spB r ∧ J pre wr ∧ Bxs Ba Bb Bc r wr)) (fun _ wr => cLen Bb wr)
  case atStart => exact ⟨[], l, hl, (⟨rfl, (show _ ∧ _ from HST).2, (show _ ∧ _ from HST).1⟩ : _ ∧ _)⟩
  case round =>
    clear HST c0
    obtain ⟨pre, r, hrl, HX⟩ := hrel
    obtain ⟨hsp, hj, hb⟩ := (show _ ∧ _ ∧ _ from HX)
    have c0 : wr.cell? ⟨Ba, 0, none⟩ = some (.string ⟨#[47]⟩) := cell_of hb.1 rfl
    have c1 : wr.cell? ⟨Bb, 0, none⟩ = some (.string (bt r)) := cell_of hb.2.1 rfl
    have c2 : wr.cell? ⟨Bc, 0, none⟩ = some (.int .i64 0) := cell_of hb.2.2.1 rfl
    have HIX : Hid (CallsIn Fence.wide (n - 1) Tryd.prog 38 #[.string (bt r), .string ⟨#[47]⟩] wr fun e w' => e = .returned (.int .i64 (Lib.indexByte r 47)) ∧ w' = wr) := (callsIn_wide.2 (im_index r hrl wr) : CallsIn _ _ _ _ _ _ _)
    have hge := Lib.indexByte_ge r 47
    have HB : Hid (Bxs Ba Bb Bc r wr) := hb
    clear HX hb
    by_cases hz : Lib.indexByte r 47 < 0
    · have e1 : spB r = [r] := ix_none hz
      rw [e1] at hsp
      obtain ⟨fn, tmps, assign, body, hy, hR⟩ := (show ∀ pre x W, J pre W → _ from HY) pre r wr hj ⟨[], hsp⟩
      rw [← hsp] at hR
      clear HY HJK hge HB hj
      generalize Lib.indexByte r 47 = z at *
      gi_wp2_with fail
      refine ⟨trivial, (show CallsIn _ _ _ _ _ _ _ from HIX).mono ?_⟩
      rintro e w8 ⟨rfl, rfl⟩
      gi_wp2_with fail
      refine hR.mono ?_
      rintro e W3 (⟨rfl, hJ3, hk3⟩ | ⟨rfl, hJx3⟩)
      · gi_wp2_with fail
        go_end0
        exact ⟨⟨_, rfl⟩, .inl hJ3⟩
      · gi_wp2_with fail
        go_end0
        exact ⟨⟨_, rfl⟩, .inr ⟨_, hJx3⟩⟩
    obtain ⟨k, hk⟩ : ∃ k : Nat, Lib.indexByte r 47 = (k : Int) := ⟨(Lib.indexByte r 47).toNat, by omega⟩
    obtain ⟨hkl, e1⟩ := ix_some hk
    rw [hk] at HIX
    have hkI : ¬ (k : Int) < 0 := by omega
    have hkr : (k : Int) ≤ 60 := by omega
    obtain ⟨fn, tmps, assign, body, hy, hR⟩ := (show ∀ pre x W, J pre W → _ from HY) pre (r.take k) wr hj ⟨_, by rw [hsp, e1]⟩
    have h1 := fun W => sl_hi (r := r) (k := k) (by omega) W
    have h2 := fun W => sl_lo (r := r) (k := k) (by omega) W
    have HSP : Hid (spB l = (pre ++ [r.take k]) ++ spB (r.drop (k + 1))) := (by rw [hsp, e1]; simp : _ = _)
    clear HY hge hj hz hk hsp e1
    gi_wp2_with fail
    refine ⟨trivial, (show CallsIn _ _ _ _ _ _ _ from HIX).mono ?_⟩
    rintro e w8 ⟨rfl, rfl⟩
    gi_wp2_with fail
    refine hR.mono ?_
    rintro e W3 (⟨rfl, hJ3, hk3⟩ | ⟨rfl, hJx3⟩)
    · have hb3 := (show Bxs Ba Bb Bc r _ from HB).keep hk3
      have d0 : W3.cell? ⟨Ba, 0, none⟩ = some (.string ⟨#[47]⟩) := cell_of hb3.1 rfl
      have d1 : W3.cell? ⟨Bb, 0, none⟩ = some (.string (bt r)) := cell_of hb3.2.1 rfl
      have d2 : W3.frozen? ⟨Bb, 0, none⟩ = false := frozen_of hb3.2.1
      have HNX : Hid (spB l = (pre ++ [r.take k]) ++ spB (r.drop (k + 1)) ∧ J (pre ++ [r.take k]) (W3.setCell ⟨Bb, 0, none⟩ (.string (bt (r.drop (k + 1))))) ∧ Bxs Ba Bb Bc (r.drop (k + 1)) (W3.setCell ⟨Bb, 0, none⟩ (.string (bt (r.drop (k + 1)))))) := (⟨HSP, (show ∀ pre W W', _ from HJK) _ _ _ hJ3 (Kx.set _ _ _), hb3.set _⟩ : _ ∧ _)
      have hm : cLen Bb (W3.setCell ⟨Bb, 0, none⟩ (.string (bt (r.drop (k + 1))))) < cLen Bb w8 := by
        rw [cLen_of (cell_of (hb3.set (r.drop (k + 1))).2.1 rfl), cLen_of c1, List.length_drop]
        omega
      clear HB HSP HJK hJ3 hk3 hb3 hR hy HIX c0 c1 c2
      gi_wp2_with fail
      go_roundw
      case rel => exact ⟨pre ++ [r.take k], r.drop (k + 1), by rw [List.length_drop]; omega, HNX⟩
      case measure => exact hm
    · gi_wp2_with fail
      refine bodyPost_ret (results_none rfl _ _ _) rfl ?_
      exact ⟨⟨_, rfl⟩, .inr ⟨_, hJx3⟩⟩
theorem three_bx (w : World) (l : List UInt8) (W : World) (h : W = (((w.alloc (.cells #[.string (bt l)] 9)).alloc (.cells #[.string ⟨#[47]⟩] 9)).alloc (.cells #[.int .i64 0] 3))) : Bxs (w.heap.size + 1) w.heap.size (w.heap.size + 1 + 1) l W := by
  subst h
  have z1 : (w.alloc (.cells #[.string (bt l)] 9)).heap.size = w.heap.size + 1 := World.size_alloc _ _
  have z2 : ((w.alloc (.cells #[.string (bt l)] 9)).alloc (.cells #[.string ⟨#[47]⟩] 9)).heap.size = w.heap.size + 1 + 1 := by rw [World.size_alloc, z1]
  refine ⟨?_, ?_, ?_, by omega, by omega⟩
  · rw [(kb_alloc 0 _ _).block _ (Nat.zero_le _) (by omega), ← z1]; exact alloc_new _ _ _
  · rw [(kb_alloc 0 _ _).block _ (Nat.zero_le _) (by omega), (kb_alloc 0 _ _).block _ (Nat.zero_le _) (by omega)]; exact alloc_new _ _ _
  · rw [← z2]; exact alloc_new _ _ _
set_option maxHeartbeats 8000000 in
theorem split_mk (l : List UInt8) (w : World) : Calls Tryd.prog 29 #[.string (bt l), .string ⟨#[47]⟩] w fun e w' => e = .returned (.func (.func 50) #[] #[.pointer (some ⟨w.heap.size + 1, 0, none⟩), .pointer (some ⟨w.heap.size, 0, none⟩), .pointer (some ⟨w.heap.size + 1 + 1, 0, none⟩)]) ∧ Bxs (w.heap.size + 1) w.heap.size (w.heap.size + 1 + 1) l w' ∧ w'.heap.size = w.heap.size + 3 ∧ Kb 0 w w' := by
  have h : Calls Tryd.prog 39 #[.string (bt l), .string ⟨#[47]⟩, .int .i64 0] w fun e w' => e = .returned (.func (.func 50) #[] #[.pointer (some ⟨w.heap.size + 1, 0, none⟩), .pointer (some ⟨w.heap.size, 0, none⟩), .pointer (some ⟨w.heap.size + 1 + 1, 0, none⟩)]) ∧ Bxs (w.heap.size + 1) w.heap.size (w.heap.size + 1 + 1) l w' ∧ w'.heap.size = w.heap.size + 3 ∧ Kb 0 w w' := by
    go_enter Tryd.func39, Tryd.ntmps39
    go_wp2_with fail
    go_ret
    refine ⟨rfl, ?_, ?_, ?_⟩
    · exact three_bx w l _ rfl
    · simp
    · exact ((kb_alloc _ _ _).trans (kb_alloc _ _ _)).trans (kb_alloc _ _ _)
  go_enter Tryd.func29, Tryd.ntmps29
  go_wp2_with fail
  refine h.mono ?_
  rintro e w' ⟨rfl, h1, h2, h3⟩
  go_wp2_with fail
  go_ret
  exact ⟨rfl, h1, h2, h3⟩
end Go.Proofs.YtgocahalfanpjaaDoor.Fo
