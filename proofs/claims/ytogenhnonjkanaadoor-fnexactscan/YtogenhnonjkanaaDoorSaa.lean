import Derived.Test.YtogenhnonjkanaaDoorQua
import Derived.Deep.QuietTactic
import Derived.BigQuiet
namespace Go.Proofs.YtogenhnonjkanaaDoor
open Go.ChangeShapes Go.WideShapes Go.ChangeAt Go.RowKit
set_option linter.unusedVariables false
/-- all but block B is kept -/
structure Kb (B : Nat) (a w : World) : Prop where
  os : w.os = a.os
  output : w.output = a.output
  size : a.heap.size ≤ w.heap.size
  block : ∀ i, i < a.heap.size → i ≠ B → w.heap[i]? = a.heap[i]?
theorem Kb.refl (B : Nat) (a : World) : Kb B a a := ⟨rfl, rfl, Nat.le_refl _, fun _ _ _ => rfl⟩
theorem Kb.trans {B : Nat} {a b c : World} (h : Kb B a b) (k : Kb B b c) : Kb B a c :=
  ⟨k.os.trans h.os, k.output.trans h.output, Nat.le_trans h.size k.size, fun i hi hn => (k.block i (Nat.lt_of_lt_of_le hi h.size) hn).trans (h.block i hi hn)⟩
theorem Kb.of_below {B n : Nat} {a w : World} (h : Below n a w) (hn : a.heap.size ≤ n) : Kb B a w := ⟨h.os, h.output, h.size, fun i hi _ => h.block i (Nat.lt_of_lt_of_le hi hn)⟩
theorem Kb.drewN {B : Nat} {a w : World} (h : Kb B a w) (n : Nat) : Kb B a (w.drewN n) := ⟨h.os, h.output, h.size, h.block⟩
theorem Kb.setCell {B : Nat} {a w : World} (h : Kb B a w) (j : Nat) (v : Value) : Kb B a (w.setCell ⟨B, j, none⟩ v) := by
  refine ⟨h.os, h.output, by simpa using h.size, fun i hi hn => ?_⟩
  rw [Below.heap_setCell w _ _ _ hn]
  exact h.block i hi hn
theorem Kb.setNew {B : Nat} {a w : World} (h : Kb B a w) (p : Addr) (hp : a.heap.size ≤ p.block) (v : Value) : Kb B a (w.setCell p v) := by
  refine ⟨h.os, h.output, by simpa using h.size, fun i hi hn => ?_⟩
  rw [Below.heap_setCell w _ _ _ (by omega)]
  exact h.block i hi hn
theorem Kb.alloc {B : Nat} {a w : World} (h : Kb B a w) (o : Obj) : Kb B a (w.alloc o) := by
  refine ⟨h.os, h.output, by have := h.size; simp; omega, fun i hi hn => ?_⟩
  rw [Below.heap_alloc w _ _ (Nat.lt_of_lt_of_le hi h.size)]
  exact h.block i hi hn
theorem Kb.of_kept {B : Nat} {a w : World} (h : a.keptBut w (fun _ => False)) : Kb B a w := by
  obtain ⟨h1, h2, h3⟩ := h
  have key : ∀ i, i < a.heap.size → w.heap[i]? = a.heap[i]? := by
    intro i hi
    have h := h3 i hi
    generalize a.heap[i]? = o at h ⊢
    generalize w.heap[i]? = o' at h ⊢
    split at h
    · obtain ⟨rfl, rfl, g1, g2⟩ := h
      congr 2
      apply Array.ext
      · exact g1
      · intro j l1 l2
        have := g2 j (fun f => f)
        rw [Array.getElem?_eq_getElem l1, Array.getElem?_eq_getElem l2] at this
        exact Option.some.inj this
    · rcases h with h | ⟨rfl, rfl⟩
      · exact h.elim
      · rfl
    · exact h
  refine ⟨h1, h2, ?_, fun i hi _ => key i hi⟩
  rcases Nat.lt_or_ge w.heap.size a.heap.size with h | h
  · have := key w.heap.size h
    rw [Array.getElem?_eq_none (Nat.le_refl _), Array.getElem?_eq_getElem h] at this
    cases this
  · exact h
theorem Kb.kept {B : Nat} {a w : World} (h : Kb B a w) (hB : a.heap.size ≤ B) : a.keptBut w (fun _ => False) := by
  refine ⟨h.os, h.output, fun i hi => ?_⟩
  have := h.block i hi (by omega)
  rw [this]
  generalize a.heap[i]? = o
  cases o with
  | none => rfl
  | some o => cases o <;> first | exact ⟨rfl, rfl, rfl, fun _ _ => rfl⟩ | exact .inr ⟨rfl, rfl⟩ | rfl
/-- the scan's own block -/
def Sb (B : Nat) (T : ByteArray) (k l : Int) (st : Bool) (w : World) : Prop := w.heap[B]? = some (.cells #[.string T, .int .i64 k, .int .i64 l, .bool st] 42 (0, 0))
section
variable {B : Nat} {T : ByteArray} {k l : Int} {st : Bool} {w : World}
theorem Sb.c0 (h : Sb B T k l st w) : w.cell? ⟨B, 0, none⟩ = some (.string T) := by unfold Sb at h; simp [World.cell?, h]
theorem Sb.c1 (h : Sb B T k l st w) : w.cell? ⟨B, 1, none⟩ = some (.int .i64 k) := by unfold Sb at h; simp [World.cell?, h]
theorem Sb.c2 (h : Sb B T k l st w) : w.cell? ⟨B, 2, none⟩ = some (.int .i64 l) := by unfold Sb at h; simp [World.cell?, h]
theorem Sb.c3 (h : Sb B T k l st w) : w.cell? ⟨B, 3, none⟩ = some (.bool st) := by unfold Sb at h; simp [World.cell?, h]
theorem Sb.fz (h : Sb B T k l st w) (j : Nat) : w.frozen? ⟨B, j, none⟩ = false := by unfold Sb at h; simp [World.frozen?, h]
theorem Sb.lt (h : Sb B T k l st w) : B < w.heap.size := (Array.getElem?_eq_some_iff.1 h).1
theorem Sb.drewN (h : Sb B T k l st w) (n : Nat) : Sb B T k l st (w.drewN n) := h
theorem Sb.set1 (h : Sb B T k l st w) (k' : Int) : Sb B T k' l st (w.setCell ⟨B, 1, none⟩ (.int .i64 k')) := by
  unfold Sb at *; simp [World.setCell, Array.getElem?_modify, h]
theorem Sb.set2 (h : Sb B T k l st w) (l' : Int) : Sb B T k l' st (w.setCell ⟨B, 2, none⟩ (.int .i64 l')) := by
  unfold Sb at *; simp [World.setCell, Array.getElem?_modify, h]
theorem Sb.set3 (h : Sb B T k l st w) (s' : Bool) : Sb B T k l s' (w.setCell ⟨B, 3, none⟩ (.bool s')) := by
  unfold Sb at *; simp [World.setCell, Array.getElem?_modify, h]
theorem Sb.below {n : Nat} {w' : World} (h : Sb B T k l st w) (hb : Below n w w') (hn : w.heap.size ≤ n) : Sb B T k l st w' := (hb.block B (Nat.lt_of_lt_of_le h.lt hn)).trans h
end
theorem ended_run (B : Nat) (T : ByteArray) (k l : Int) (st z : Bool) (hz : (k == (T.size : Int)) = z) (w : World) (h : Sb B T k l st w) :
    Calls Tryd.prog 40 #[.pointer (some ⟨B, 0, none⟩)] w fun e w' => e = .returned (.bool z) ∧ ∃ m, w' = w.drewN m := by
  have b0 := h.c0
  have b1 := h.c1
  clear h
  go_enter Tryd.func40, Tryd.ntmps40
  go_wp2
  go_quiet (fail)
  go_wp2
  go_ret
  exact ⟨rfl, nq, rfl⟩
theorem ended_in (B : Nat) (T : ByteArray) (k l : Int) (st z : Bool) (hz : (k == (T.size : Int)) = z) (w : World) (h : Sb B T k l st w) (n : Nat) :
    Calls Tryd.prog 40 #[.pointer (some ⟨B, 0, none⟩)] (w.drewN n) fun e w' => e = .returned (.bool z) ∧ ∃ m, w' = w.drewN m :=
  Calls.quiet_of (ended_run B T k l st z hz (w.drewN n) h)
theorem take_end {B : Nat} {T : ByteArray} {k l : Int} {st : Bool} (c : Int) (hk : k = (T.size : Int)) (w : World) (h : Sb B T k l st w) :
    Calls Tryd.prog 56 #[.pointer (some ⟨B, 0, none⟩), .int .u8 c] w fun e w' => e = .returned (.bool false) ∧ ∃ m, w' = w.drewN m := by
  have H21 := ended_in B T k l st true (by simpa using hk) w h
  have b0 := h.c0
  have b1 := h.c1
  clear h hk
  go_enter Tryd.func56, Tryd.ntmps56
  go_wp2_with fail
  go_quiet ((go_at_call 40; exact H21 _))
  go_wp2_with fail
  go_ret
  exact ⟨rfl, _, rfl⟩
theorem take_no {B : Nat} {T : ByteArray} {k : Nat} {l : Int} {st : Bool} (c : Int) (x : UInt8) (hx : T.data.toList[k]? = some x) (hc : ((x.toNat : Int) == c) = false) (w : World) (h : Sb B T k l st w) :
    Calls Tryd.prog 56 #[.pointer (some ⟨B, 0, none⟩), .int .u8 c] w fun e w' => e = .returned (.bool false) ∧ ∃ m, w' = w.drewN m := by
  have hlt : k < T.size := by have := (List.getElem?_eq_some_iff.1 hx).1; simpa using this
  have H21 := ended_in B T k l st false (by simp; omega) w h
  have b0 := h.c0
  have b1 := h.c1
  have hix := ix T _ rfl k x hx
  clear h hlt hx
  generalize (x.toNat : Int) = xi at *
  go_enter Tryd.func56, Tryd.ntmps56
  go_wp2_with fail
  go_quiet ((go_at_call 40; exact H21 _))
  go_wp2_with fail
  go_ret
  exact ⟨rfl, _, rfl⟩
theorem take_yes {B : Nat} {T : ByteArray} {k : Nat} {l : Int} {st : Bool} (x : UInt8) (hlen : T.size ≤ 65536) (hx : T.data.toList[k]? = some x) (w : World) (h : Sb B T k l st w) :
    Calls Tryd.prog 56 #[.pointer (some ⟨B, 0, none⟩), .int .u8 (x.toNat : Int)] w fun e w' => e = .returned (.bool true) ∧ Kb B w w' ∧ Sb B T ((k + 1 : Nat) : Int) l st w' := by
  have hlt : k < T.size := by have := (List.getElem?_eq_some_iff.1 hx).1; simpa using this
  have H21 := ended_in B T k l st false (by simp; omega) w h
  have HS : Hid (Sb B T k l st w) := h
  have b0 := h.c0
  have b1 := h.c1
  have f1 := h.fz 1
  have hix := ix T _ rfl k x hx
  have hk2 : (k : Int) < 65536 := by omega
  clear h hlt hx
  generalize (x.toNat : Int) = xi at *
  go_enter Tryd.func56, Tryd.ntmps56
  go_wp2_with fail
  go_quiet ((go_at_call 40; exact H21 _))
  go_wp2_with fail
  go_ret
  refine ⟨rfl, ((Kb.refl B w).drewN nq).setCell 1 _, ?_⟩
  exact ((show Sb B T k l st w from HS).drewN nq).set1 _
/-- letters and digits -/
def isL (b : UInt8) : Bool := (97 ≤ b.toNat && b.toNat ≤ 122) || (65 ≤ b.toNat && b.toNat ≤ 90) || b.toNat == 95
def isD (b : UInt8) : Bool := 48 ≤ b.toNat && b.toNat ≤ 57
theorem impl_isD (c : UInt8) (w : World) : Calls Tryd.prog 65 #[.int .u8 (c.toNat : Int)] w fun e w' => e = .returned (.bool (isD c)) ∧ w' = w := by
  have hc := c.toNat_lt
  by_cases h1 : c.toNat < 48
  · have e : isD c = false := by unfold isD; simp; omega
    rw [e]
    have i1 : ¬ (48 : Int) ≤ (c.toNat : Int) := by omega
    clear e h1 hc
    generalize (c.toNat : Int) = n at *
    go_enter Tryd.func65, Tryd.ntmps65
    go_wp2
    go_ret
    exact ⟨rfl, rfl⟩
  · by_cases h2 : c.toNat ≤ 57
    · have e : isD c = true := by unfold isD; simp; omega
      rw [e]
      have i1 : (48 : Int) ≤ (c.toNat : Int) := by omega
      have i2 : (c.toNat : Int) ≤ 57 := by omega
      clear e h1 h2 hc
      generalize (c.toNat : Int) = n at *
      go_enter Tryd.func65, Tryd.ntmps65
      go_wp2
      go_ret
      exact ⟨rfl, rfl⟩
    · have e : isD c = false := by unfold isD; simp; omega
      rw [e]
      have i1 : (48 : Int) ≤ (c.toNat : Int) := by omega
      have i2 : ¬ (c.toNat : Int) ≤ 57 := by omega
      clear e h1 h2 hc
      generalize (c.toNat : Int) = n at *
      go_enter Tryd.func65, Tryd.ntmps65
      go_wp2
      go_ret
      exact ⟨rfl, rfl⟩
end Go.Proofs.YtogenhnonjkanaaDoor
