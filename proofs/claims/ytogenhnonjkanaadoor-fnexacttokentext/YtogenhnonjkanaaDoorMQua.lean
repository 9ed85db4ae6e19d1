import Derived.Test.YtogenhnonjkanaaDoorRows
import Derived.WalkKit
import Derived.ProofKit
import Derived.OpenShut
import Derived.Handy
import Derived.Laws.Strings3
import Derived.Lib.Strings
import Derived.Laws.OwnMore
import Derived.Laws.IdiomStrings
import Derived.Lib.UnsafeStr
import Derived.Deep.QuietTactic
import Derived.BigQuiet
import Derived.Deep.AppendLies
namespace Go.Proofs.YtogenhnonjkanaaDoor
open Go.ChangeShapes Go.WideShapes Go.ChangeAt Go.RowKit
set_option linter.unusedVariables false
theorem byte_at (s : ByteArray) (i : Nat) (hi : i < s.size) : s[i] = s.data.toList.getD i 0 := by
  have h' : i < s.data.toList.length := by simpa using hi
  rw [List.getD, List.getElem?_eq_getElem h']
  simp
  rfl
/-- the digits of a byte in hexadecimal -/
def hxs : List UInt8 := [48, 49, 50, 51, 52, 53, 54, 55, 56, 57, 97, 98, 99, 100, 101, 102]
def hx (d : Nat) : UInt8 := hxs.getD d 0
/-- a byte as an element of a string -/
def qel (b : UInt8) : List UInt8 :=
  if b.toNat = 10 then [92, 110] else if b.toNat = 9 then [92, 116] else if b.toNat = 34 then [92, 34] else if b.toNat = 92 then [92, 92]
  else if b.toNat < 32 ∨ 126 < b.toNat then [92, 120, hx (b.toNat / 16), hx (b.toNat % 16)] else [b]
theorem qel_len (b : UInt8) : (qel b).length ≤ 4 := by unfold qel; repeat' split
                                                       all_goals simp
/-- the first k bytes, quoted, with the mark ahead -/
def quo (L : List UInt8) (k : Nat) : List UInt8 := 34 :: (L.take k).flatMap qel
theorem quo_zero (L : List UInt8) : quo L 0 = [34] := by simp [quo]
theorem quo_succ (L : List UInt8) (k : Nat) (x : UInt8) (h : L[k]? = some x) : quo L (k + 1) = quo L k ++ qel x := by
  have : L.take (k + 1) = L.take k ++ [x] := by rw [List.take_add_one, h]; rfl
  simp [quo, this]
theorem quo_len (L : List UInt8) : ∀ k, (quo L k).length ≤ 1 + 4 * k
  | 0 => by simp [quo]
  | k + 1 => by
    have ih := quo_len L k
    cases h : L[k]? with
    | none =>
      have : L.take (k + 1) = L.take k := by rw [List.take_add_one, h]; simp
      have e : quo L (k + 1) = quo L k := by simp [quo, this]
      rw [e]; omega
    | some x => rw [quo_succ L k x h, List.length_append]; have := qel_len x; omega
theorem bc_append (a b : List UInt8) : Lib.byteCells (a ++ b) = Lib.byteCells a ++ Lib.byteCells b := by simp [Lib.byteCells]
theorem bc_len (a : List UInt8) : (Lib.byteCells a).length = a.length := by simp [Lib.byteCells]
theorem ix (T : ByteArray) (L : List UInt8) (hT : T.data.toList = L) (k : Nat) (c : UInt8) (hk : L[k]? = some c) (w : World) :
    (Instr.index 9 (.string T) (.int .i64 (k : Int))).run Tryd.prog w = .ok (.int .u8 (c.toNat : Int)) w := by
  subst hT
  have hlt : k < T.size := by
    have := (List.getElem?_eq_some_iff.1 hk).1
    simpa using this
  rw [run_index_string w 9 T .i64 _ Tryd.underlying9, dif_pos ⟨by omega, by omega⟩]
  have e : ((k : Int)).toNat = k := by omega
  simp only [e]
  rw [byte_at _ k hlt]
  have : T.data.toList.getD k 0 = c := by rw [List.getD, hk]; rfl
  rw [this]
theorem ixd : ∀ i : Fin 16, (⟨#[48, 49, 50, 51, 52, 53, 54, 55, 56, 57, 97, 98, 99, 100, 101, 102]⟩ : ByteArray).data.toList[i.val]? = some (hx i.val) := by decide +kernel
theorem ixh (r : Nat) (hr : r < 16) (w : World) :
    (Instr.index 9 (.string ⟨#[48, 49, 50, 51, 52, 53, 54, 55, 56, 57, 97, 98, 99, 100, 101, 102]⟩) (.int .u8 (r : Int))).run Tryd.prog w = .ok (.int .u8 ((hx r).toNat : Int)) w := by
  have hk := ixd ⟨r, hr⟩
  have hsz : (⟨#[48, 49, 50, 51, 52, 53, 54, 55, 56, 57, 97, 98, 99, 100, 101, 102]⟩ : ByteArray).size = 16 := by decide
  rw [run_index_string w 9 _ .u8 _ Tryd.underlying9, dif_pos ⟨by omega, by rw [hsz]; omega⟩]
  have e : ((r : Int)).toNat = r := by omega
  simp only [e]
  rw [byte_at _ r (by rw [hsz]; omega)]
  have : (⟨#[48, 49, 50, 51, 52, 53, 54, 55, 56, 57, 97, 98, 99, 100, 101, 102]⟩ : ByteArray).data.toList.getD r 0 = hx r := by rw [List.getD, hk]; rfl
  rw [this]
theorem info5 : (Tryd.prog.info? 5).map (fun i => (i.zero, i.size, i.bytes)) = some (some (.int .u8 0), 1, 1) := by kernel_rfl
/-- what stands between two rounds -/
def QR (w : World) (l : List UInt8) (v : Value) (wr : World) : Prop := wr.ownsRow w.heap.size 5 1 v l.length (Lib.byteCells l) ∧ Below w.heap.size w wr
theorem qr_step {w wr w1 : World} {l m : List UInt8} {v v' : Value} {o : Obj} (h : QR w l v wr) (ho : w1.ownsRow w.heap.size 5 1 v' (l.length + m.length) (Lib.byteCells l ++ Lib.byteCells m)) (hg : (wr.alloc o).grownBy w1 v.ownBlock) : QR w (l ++ m) v' w1 := by
  obtain ⟨h1, h2⟩ := h
  refine ⟨by rw [List.length_append, bc_append]; exact ho, ?_⟩
  exact (h2.alloc h2.size o).grown hg (by have := h2.size; simp; omega) (fun k hk => (h1.lt k hk).1)
theorem qr_cells (w : World) (c : Array Value) (t : TypeId) (l : List Value) (hl : c.toList = l) : ∀ j u, l[j]? = some u → (w.alloc (.cells c t)).cell? ((⟨w.heap.size, 0, none⟩ : Addr).add j) = some u := by
  intro j u hj
  subst hl
  have e : (⟨w.heap.size, 0, none⟩ : Addr).add j = ⟨w.heap.size, j, none⟩ := by simp [Addr.add]; intro h; exact h.symm
  rw [e, World.cell?_alloc_mark]
  simpa using hj
theorem bc_one (l : List UInt8) : ∀ u ∈ Lib.byteCells l, u.oneCell' = true := by
  intro u hu
  simp [Lib.byteCells] at hu
  obtain ⟨a, _, rfl⟩ := hu
  rfl
theorem conv_row {w wr : World} {l : List UInt8} {v : Value} (hl : l ≠ []) (h : QR w l v wr) : (convert 66 9 v).run Tryd.prog wr = .ok (.string ⟨l.toArray⟩) wr := by
  obtain ⟨h1, h2⟩ := h
  obtain ⟨g, cap, rfl, _, _⟩ := World.ownsRow.form h1 (by cases l with | nil => exact (hl rfl).elim | cons a b => simp)
  refine run_convert_bytes_back wr 66 9 5 _ cap l Tryd.underlying66 Tryd.underlying5 Tryd.underlying9 (fun j hj => ?_)
  have := h1.cells (g := g) rfl j (.int .u8 (l[j].toNat : Int)) (by simp [Lib.byteCells, hj])
  exact this
end Go.Proofs.YtogenhnonjkanaaDoor
namespace Go.Proofs.YtogenhnonjkanaaDoor
open Go.ChangeShapes Go.WideShapes Go.ChangeAt Go.RowKit
set_option linter.unusedVariables false
/-- all but block B is kept -/
structure Kb (B : Nat) (a w : World) : Prop where
  os : w.os = a.os
  output : w.output = a.output
  size : a.heap.size ≤ w.heap.size
  block : ∀ i, i < a.heap.size → i ≠ B → w.heap[i]? = a.heap[i]?
theorem Kb.refl (B : Nat) (a : World) : Kb B a a := ⟨rfl, rfl, Nat.le_refl _, fun _ _ _ => rfl⟩
theorem Kb.trans {B : Nat} {a b c : World} (h : Kb B a b) (k : Kb B b c) : Kb B a c :=
  ⟨k.os.trans h.os, k.output.trans h.output, Nat.le_trans h.size k.size, fun i hi hn => (k.block i (Nat.lt_of_lt_of_le hi h.size) hn).trans (h.block i hi hn)⟩
theorem Kb.of_below {B n : Nat} {a w : World} (h : Below n a w) (hn : a.heap.size ≤ n) : Kb B a w := ⟨h.os, h.output, h.size, fun i hi _ => h.block i (Nat.lt_of_lt_of_le hi hn)⟩
theorem Kb.drewN {B : Nat} {a w : World} (h : Kb B a w) (n : Nat) : Kb B a (w.drewN n) := ⟨h.os, h.output, h.size, h.block⟩
theorem Kb.setCell {B : Nat} {a w : World} (h : Kb B a w) (j : Nat) (v : Value) : Kb B a (w.setCell ⟨B, j, none⟩ v) := by
  refine ⟨h.os, h.output, by simpa using h.size, fun i hi hn => ?_⟩
  rw [Below.heap_setCell w _ _ _ hn]
  exact h.block i hi hn
theorem Kb.setNew {B : Nat} {a w : World} (h : Kb B a w) (p : Addr) (hp : a.heap.size ≤ p.block) (v : Value) : Kb B a (w.setCell p v) := by
  refine ⟨h.os, h.output, by simpa using h.size, fun i hi hn => ?_⟩
  rw [Below.heap_setCell w _ _ _ (by omega)]
  exact h.block i hi hn
theorem Kb.alloc {B : Nat} {a w : World} (h : Kb B a w) (o : Obj) : Kb B a (w.alloc o) := by
  refine ⟨h.os, h.output, by have := h.size; simp; omega, fun i hi hn => ?_⟩
  rw [Below.heap_alloc w _ _ (Nat.lt_of_lt_of_le hi h.size)]
  exact h.block i hi hn
theorem Kb.of_kept {B : Nat} {a w : World} (h : a.keptBut w (fun _ => False)) : Kb B a w := by
  obtain ⟨h1, h2, h3⟩ := h
  have key : ∀ i, i < a.heap.size → w.heap[i]? = a.heap[i]? := by
    intro i hi
    have h := h3 i hi
    generalize a.heap[i]? = o at h ⊢
    generalize w.heap[i]? = o' at h ⊢
    split at h
    · obtain ⟨rfl, rfl, g1, g2⟩ := h
      congr 2
      apply Array.ext
      · exact g1
      · intro j l1 l2
        have := g2 j (fun f => f)
        rw [Array.getElem?_eq_getElem l1, Array.getElem?_eq_getElem l2] at this
        exact Option.some.inj this
    · rcases h with h | ⟨rfl, rfl⟩
      · exact h.elim
      · rfl
    · exact h
  refine ⟨h1, h2, ?_, fun i hi _ => key i hi⟩
  rcases Nat.lt_or_ge w.heap.size a.heap.size with h | h
  · have := key w.heap.size h
    rw [Array.getElem?_eq_none (Nat.le_refl _), Array.getElem?_eq_getElem h] at this
    cases this
  · exact h
theorem Kb.kept {B : Nat} {a w : World} (h : Kb B a w) (hB : a.heap.size ≤ B) : a.keptBut w (fun _ => False) := by
  refine ⟨h.os, h.output, fun i hi => ?_⟩
  have := h.block i hi (by omega)
  rw [this]
  generalize a.heap[i]? = o
  cases o with
  | none => rfl
  | some o => cases o <;> first | exact ⟨rfl, rfl, rfl, fun _ _ => rfl⟩ | exact .inr ⟨rfl, rfl⟩ | rfl
/-- the scan's own block -/
def Sb (B : Nat) (T : ByteArray) (k l : Int) (st : Bool) (w : World) : Prop := w.heap[B]? = some (.cells #[.string T, .int .i64 k, .int .i64 l, .bool st] 42 (0, 0))
section
variable {B : Nat} {T : ByteArray} {k l : Int} {st : Bool} {w : World}
theorem Sb.c0 (h : Sb B T k l st w) : w.cell? ⟨B, 0, none⟩ = some (.string T) := by unfold Sb at h; simp [World.cell?, h]
theorem Sb.c1 (h : Sb B T k l st w) : w.cell? ⟨B, 1, none⟩ = some (.int .i64 k) := by unfold Sb at h; simp [World.cell?, h]
theorem Sb.c2 (h : Sb B T k l st w) : w.cell? ⟨B, 2, none⟩ = some (.int .i64 l) := by unfold Sb at h; simp [World.cell?, h]
theorem Sb.c3 (h : Sb B T k l st w) : w.cell? ⟨B, 3, none⟩ = some (.bool st) := by unfold Sb at h; simp [World.cell?, h]
theorem Sb.fz (h : Sb B T k l st w) (j : Nat) : w.frozen? ⟨B, j, none⟩ = false := by unfold Sb at h; simp [World.frozen?, h]
theorem Sb.lt (h : Sb B T k l st w) : B < w.heap.size := (Array.getElem?_eq_some_iff.1 h).1
theorem Sb.drewN (h : Sb B T k l st w) (n : Nat) : Sb B T k l st (w.drewN n) := h
theorem Sb.set1 (h : Sb B T k l st w) (k' : Int) : Sb B T k' l st (w.setCell ⟨B, 1, none⟩ (.int .i64 k')) := by
  unfold Sb at *; simp [World.setCell, Array.getElem?_modify, h]
theorem Sb.set2 (h : Sb B T k l st w) (l' : Int) : Sb B T k l' st (w.setCell ⟨B, 2, none⟩ (.int .i64 l')) := by
  unfold Sb at *; simp [World.setCell, Array.getElem?_modify, h]
theorem Sb.set3 (h : Sb B T k l st w) (s' : Bool) : Sb B T k l s' (w.setCell ⟨B, 3, none⟩ (.bool s')) := by
  unfold Sb at *; simp [World.setCell, Array.getElem?_modify, h]
theorem Sb.below {n : Nat} {w' : World} (h : Sb B T k l st w) (hb : Below n w w') (hn : w.heap.size ≤ n) : Sb B T k l st w' := (hb.block B (Nat.lt_of_lt_of_le h.lt hn)).trans h
end
theorem ended_run (B : Nat) (T : ByteArray) (k l : Int) (st z : Bool) (hz : (k == (T.size : Int)) = z) (w : World) (h : Sb B T k l st w) :
    Calls Tryd.prog 40 #[.pointer (some ⟨B, 0, none⟩)] w fun e w' => e = .returned (.bool z) ∧ ∃ m, w' = w.drewN m := by
  have b0 := h.c0
  have b1 := h.c1
  clear h
  go_enter Tryd.func40, Tryd.ntmps40
  go_wp2
  go_quiet (fail)
  go_wp2
  go_ret
  exact ⟨rfl, nq, rfl⟩
theorem ended_in (B : Nat) (T : ByteArray) (k l : Int) (st z : Bool) (hz : (k == (T.size : Int)) = z) (w : World) (h : Sb B T k l st w) (n : Nat) :
    Calls Tryd.prog 40 #[.pointer (some ⟨B, 0, none⟩)] (w.drewN n) fun e w' => e = .returned (.bool z) ∧ ∃ m, w' = w.drewN m :=
  Calls.quiet_of (ended_run B T k l st z hz (w.drewN n) h)
theorem take_end {B : Nat} {T : ByteArray} {k l : Int} {st : Bool} (c : Int) (hk : k = (T.size : Int)) (w : World) (h : Sb B T k l st w) :
    Calls Tryd.prog 56 #[.pointer (some ⟨B, 0, none⟩), .int .u8 c] w fun e w' => e = .returned (.bool false) ∧ ∃ m, w' = w.drewN m := by
  have H21 := ended_in B T k l st true (by simpa using hk) w h
  have b0 := h.c0
  have b1 := h.c1
  clear h hk
  go_enter Tryd.func56, Tryd.ntmps56
  go_wp2_with fail
  go_quiet ((go_at_call 40; exact H21 _))
  go_wp2_with fail
  go_ret
  exact ⟨rfl, _, rfl⟩
theorem take_no {B : Nat} {T : ByteArray} {k : Nat} {l : Int} {st : Bool} (c : Int) (x : UInt8) (hx : T.data.toList[k]? = some x) (hc : ((x.toNat : Int) == c) = false) (w : World) (h : Sb B T k l st w) :
    Calls Tryd.prog 56 #[.pointer (some ⟨B, 0, none⟩), .int .u8 c] w fun e w' => e = .returned (.bool false) ∧ ∃ m, w' = w.drewN m := by
  have hlt : k < T.size := by have := (List.getElem?_eq_some_iff.1 hx).1; simpa using this
  have H21 := ended_in B T k l st false (by simp; omega) w h
  have b0 := h.c0
  have b1 := h.c1
  have hix := ix T _ rfl k x hx
  clear h hlt hx
  generalize (x.toNat : Int) = xi at *
  go_enter Tryd.func56, Tryd.ntmps56
  go_wp2_with fail
  go_quiet ((go_at_call 40; exact H21 _))
  go_wp2_with fail
  go_ret
  exact ⟨rfl, _, rfl⟩
theorem take_yes {B : Nat} {T : ByteArray} {k : Nat} {l : Int} {st : Bool} (x : UInt8) (hlen : T.size ≤ 65536) (hx : T.data.toList[k]? = some x) (w : World) (h : Sb B T k l st w) :
    Calls Tryd.prog 56 #[.pointer (some ⟨B, 0, none⟩), .int .u8 (x.toNat : Int)] w fun e w' => e = .returned (.bool true) ∧ Kb B w w' ∧ Sb B T ((k + 1 : Nat) : Int) l st w' := by
  have hlt : k < T.size := by have := (List.getElem?_eq_some_iff.1 hx).1; simpa using this
  have H21 := ended_in B T k l st false (by simp; omega) w h
  have HS : Hid (Sb B T k l st w) := h
  have b0 := h.c0
  have b1 := h.c1
  have f1 := h.fz 1
  have hix := ix T _ rfl k x hx
  have hk2 : (k : Int) < 65536 := by omega
  clear h hlt hx
  generalize (x.toNat : Int) = xi at *
  go_enter Tryd.func56, Tryd.ntmps56
  go_wp2_with fail
  go_quiet ((go_at_call 40; exact H21 _))
  go_wp2_with fail
  go_ret
  refine ⟨rfl, ((Kb.refl B w).drewN nq).setCell 1 _, ?_⟩
  exact ((show Sb B T k l st w from HS).drewN nq).set1 _
/-- letters and digits -/
def isL (b : UInt8) : Bool := (97 ≤ b.toNat && b.toNat ≤ 122) || (65 ≤ b.toNat && b.toNat ≤ 90) || b.toNat == 95
def isD (b : UInt8) : Bool := 48 ≤ b.toNat && b.toNat ≤ 57
theorem impl_isD (c : UInt8) (w : World) : Calls Tryd.prog 65 #[.int .u8 (c.toNat : Int)] w fun e w' => e = .returned (.bool (isD c)) ∧ w' = w := by
  have hc := c.toNat_lt
  by_cases h1 : c.toNat < 48
  · have e : isD c = false := by unfold isD; simp; omega
    rw [e]
    have i1 : ¬ (48 : Int) ≤ (c.toNat : Int) := by omega
    clear e h1 hc
    generalize (c.toNat : Int) = n at *
    go_enter Tryd.func65, Tryd.ntmps65
    go_wp2
    go_ret
    exact ⟨rfl, rfl⟩
  · by_cases h2 : c.toNat ≤ 57
    · have e : isD c = true := by unfold isD; simp; omega
      rw [e]
      have i1 : (48 : Int) ≤ (c.toNat : Int) := by omega
      have i2 : (c.toNat : Int) ≤ 57 := by omega
      clear e h1 h2 hc
      generalize (c.toNat : Int) = n at *
      go_enter Tryd.func65, Tryd.ntmps65
      go_wp2
      go_ret
      exact ⟨rfl, rfl⟩
    · have e : isD c = false := by unfold isD; simp; omega
      rw [e]
      have i1 : (48 : Int) ≤ (c.toNat : Int) := by omega
      have i2 : ¬ (c.toNat : Int) ≤ 57 := by omega
      clear e h1 h2 hc
      generalize (c.toNat : Int) = n at *
      go_enter Tryd.func65, Tryd.ntmps65
      go_wp2
      go_ret
      exact ⟨rfl, rfl⟩
end Go.Proofs.YtogenhnonjkanaaDoor
namespace Go.Proofs.YtogenhnonjkanaaDoor
open Go.ChangeShapes Go.WideShapes Go.ChangeAt Go.RowKit
set_option linter.unusedVariables false
theorem impl_isL (c : UInt8) (w : World) : Calls Tryd.prog 63 #[.int .u8 (c.toNat : Int)] w fun e w' => e = .returned (.bool (isL c)) ∧ w' = w := by
  have hc := c.toNat_lt
  have hr : (c.toNat < 65) ∨ (65 ≤ c.toNat ∧ c.toNat ≤ 90) ∨ (90 < c.toNat ∧ c.toNat < 95) ∨ (c.toNat = 95) ∨ (c.toNat = 96) ∨ (97 ≤ c.toNat ∧ c.toNat ≤ 122) ∨ (122 < c.toNat) := by omega
  rcases hr with h | h | h | h | h | h | h
  · have e : isL c = false := by unfold isL; simp; omega
    rw [e]
    have i1 : ¬ (97 : Int) ≤ (c.toNat : Int) := by omega
    have i2 : (c.toNat : Int) ≤ 122 := by omega
    have i3 : ¬ (65 : Int) ≤ (c.toNat : Int) := by omega
    have i4 : (c.toNat : Int) ≤ 90 := by omega
    have i5 : ((c.toNat : Int) == 95) = false := by simp; omega
    clear e h hc
    generalize (c.toNat : Int) = n at *
    go_enter Tryd.func63, Tryd.ntmps63
    go_wp2
    go_ret
    exact ⟨rfl, rfl⟩
  · have e : isL c = true := by unfold isL; simp; omega
    rw [e]
    have i1 : ¬ (97 : Int) ≤ (c.toNat : Int) := by omega
    have i2 : (c.toNat : Int) ≤ 122 := by omega
    have i3 : (65 : Int) ≤ (c.toNat : Int) := by omega
    have i4 : (c.toNat : Int) ≤ 90 := by omega
    have i5 : ((c.toNat : Int) == 95) = false := by simp; omega
    clear e h hc
    generalize (c.toNat : Int) = n at *
    go_enter Tryd.func63, Tryd.ntmps63
    go_wp2
    go_ret
    exact ⟨rfl, rfl⟩
  · have e : isL c = false := by unfold isL; simp; omega
    rw [e]
    have i1 : ¬ (97 : Int) ≤ (c.toNat : Int) := by omega
    have i2 : (c.toNat : Int) ≤ 122 := by omega
    have i3 : (65 : Int) ≤ (c.toNat : Int) := by omega
    have i4 : ¬ (c.toNat : Int) ≤ 90 := by omega
    have i5 : ((c.toNat : Int) == 95) = false := by simp; omega
    clear e h hc
    generalize (c.toNat : Int) = n at *
    go_enter Tryd.func63, Tryd.ntmps63
    go_wp2
    go_ret
    exact ⟨rfl, rfl⟩
  · have e : isL c = true := by unfold isL; simp; omega
    rw [e]
    have i1 : ¬ (97 : Int) ≤ (c.toNat : Int) := by omega
    have i2 : (c.toNat : Int) ≤ 122 := by omega
    have i3 : (65 : Int) ≤ (c.toNat : Int) := by omega
    have i4 : ¬ (c.toNat : Int) ≤ 90 := by omega
    have i5 : ((c.toNat : Int) == 95) = true := by simp; omega
    clear e h hc
    generalize (c.toNat : Int) = n at *
    go_enter Tryd.func63, Tryd.ntmps63
    go_wp2
    go_ret
    exact ⟨rfl, rfl⟩
  · have e : isL c = false := by unfold isL; simp; omega
    rw [e]
    have i1 : ¬ (97 : Int) ≤ (c.toNat : Int) := by omega
    have i2 : (c.toNat : Int) ≤ 122 := by omega
    have i3 : (65 : Int) ≤ (c.toNat : Int) := by omega
    have i4 : ¬ (c.toNat : Int) ≤ 90 := by omega
    have i5 : ((c.toNat : Int) == 95) = false := by simp; omega
    clear e h hc
    generalize (c.toNat : Int) = n at *
    go_enter Tryd.func63, Tryd.ntmps63
    go_wp2
    go_ret
    exact ⟨rfl, rfl⟩
  · have e : isL c = true := by unfold isL; simp; omega
    rw [e]
    have i1 : (97 : Int) ≤ (c.toNat : Int) := by omega
    have i2 : (c.toNat : Int) ≤ 122 := by omega
    have i3 : (65 : Int) ≤ (c.toNat : Int) := by omega
    have i4 : ¬ (c.toNat : Int) ≤ 90 := by omega
    have i5 : ((c.toNat : Int) == 95) = false := by simp; omega
    clear e h hc
    generalize (c.toNat : Int) = n at *
    go_enter Tryd.func63, Tryd.ntmps63
    go_wp2
    go_ret
    exact ⟨rfl, rfl⟩
  · have e : isL c = false := by unfold isL; simp; omega
    rw [e]
    have i1 : (97 : Int) ≤ (c.toNat : Int) := by omega
    have i2 : ¬ (c.toNat : Int) ≤ 122 := by omega
    have i3 : (65 : Int) ≤ (c.toNat : Int) := by omega
    have i4 : ¬ (c.toNat : Int) ≤ 90 := by omega
    have i5 : ((c.toNat : Int) == 95) = false := by simp; omega
    clear e h hc
    generalize (c.toNat : Int) = n at *
    go_enter Tryd.func63, Tryd.ntmps63
    go_wp2
    go_ret
    exact ⟨rfl, rfl⟩
theorem spec_isL (c : UInt8) (w : World) : Calls Tryd.prog 31 #[.int .u8 (c.toNat : Int)] w fun e w' => e = .returned (.bool (isL c)) ∧ w' = w := by
  have hc := c.toNat_lt
  have hr : (c.toNat < 65) ∨ (65 ≤ c.toNat ∧ c.toNat ≤ 90) ∨ (90 < c.toNat ∧ c.toNat < 95) ∨ (c.toNat = 95) ∨ (c.toNat = 96) ∨ (97 ≤ c.toNat ∧ c.toNat ≤ 122) ∨ (122 < c.toNat) := by omega
  rcases hr with h | h | h | h | h | h | h
  · have e : isL c = false := by unfold isL; simp; omega
    rw [e]
    have i1 : ¬ (97 : Int) ≤ (c.toNat : Int) := by omega
    have i2 : (c.toNat : Int) ≤ 122 := by omega
    have i3 : ¬ (65 : Int) ≤ (c.toNat : Int) := by omega
    have i4 : (c.toNat : Int) ≤ 90 := by omega
    have i5 : ((c.toNat : Int) == 95) = false := by simp; omega
    clear e h hc
    generalize (c.toNat : Int) = n at *
    go_enter Tryd.func31, Tryd.ntmps31
    go_wp2
    go_ret
    exact ⟨rfl, rfl⟩
  · have e : isL c = true := by unfold isL; simp; omega
    rw [e]
    have i1 : ¬ (97 : Int) ≤ (c.toNat : Int) := by omega
    have i2 : (c.toNat : Int) ≤ 122 := by omega
    have i3 : (65 : Int) ≤ (c.toNat : Int) := by omega
    have i4 : (c.toNat : Int) ≤ 90 := by omega
    have i5 : ((c.toNat : Int) == 95) = false := by simp; omega
    clear e h hc
    generalize (c.toNat : Int) = n at *
    go_enter Tryd.func31, Tryd.ntmps31
    go_wp2
    go_ret
    exact ⟨rfl, rfl⟩
  · have e : isL c = false := by unfold isL; simp; omega
    rw [e]
    have i1 : ¬ (97 : Int) ≤ (c.toNat : Int) := by omega
    have i2 : (c.toNat : Int) ≤ 122 := by omega
    have i3 : (65 : Int) ≤ (c.toNat : Int) := by omega
    have i4 : ¬ (c.toNat : Int) ≤ 90 := by omega
    have i5 : ((c.toNat : Int) == 95) = false := by simp; omega
    clear e h hc
    generalize (c.toNat : Int) = n at *
    go_enter Tryd.func31, Tryd.ntmps31
    go_wp2
    go_ret
    exact ⟨rfl, rfl⟩
  · have e : isL c = true := by unfold isL; simp; omega
    rw [e]
    have i1 : ¬ (97 : Int) ≤ (c.toNat : Int) := by omega
    have i2 : (c.toNat : Int) ≤ 122 := by omega
    have i3 : (65 : Int) ≤ (c.toNat : Int) := by omega
    have i4 : ¬ (c.toNat : Int) ≤ 90 := by omega
    have i5 : ((c.toNat : Int) == 95) = true := by simp; omega
    clear e h hc
    generalize (c.toNat : Int) = n at *
    go_enter Tryd.func31, Tryd.ntmps31
    go_wp2
    go_ret
    exact ⟨rfl, rfl⟩
  · have e : isL c = false := by unfold isL; simp; omega
    rw [e]
    have i1 : ¬ (97 : Int) ≤ (c.toNat : Int) := by omega
    have i2 : (c.toNat : Int) ≤ 122 := by omega
    have i3 : (65 : Int) ≤ (c.toNat : Int) := by omega
    have i4 : ¬ (c.toNat : Int) ≤ 90 := by omega
    have i5 : ((c.toNat : Int) == 95) = false := by simp; omega
    clear e h hc
    generalize (c.toNat : Int) = n at *
    go_enter Tryd.func31, Tryd.ntmps31
    go_wp2
    go_ret
    exact ⟨rfl, rfl⟩
  · have e : isL c = true := by unfold isL; simp; omega
    rw [e]
    have i1 : (97 : Int) ≤ (c.toNat : Int) := by omega
    have i2 : (c.toNat : Int) ≤ 122 := by omega
    have i3 : (65 : Int) ≤ (c.toNat : Int) := by omega
    have i4 : ¬ (c.toNat : Int) ≤ 90 := by omega
    have i5 : ((c.toNat : Int) == 95) = false := by simp; omega
    clear e h hc
    generalize (c.toNat : Int) = n at *
    go_enter Tryd.func31, Tryd.ntmps31
    go_wp2
    go_ret
    exact ⟨rfl, rfl⟩
  · have e : isL c = false := by unfold isL; simp; omega
    rw [e]
    have i1 : (97 : Int) ≤ (c.toNat : Int) := by omega
    have i2 : ¬ (c.toNat : Int) ≤ 122 := by omega
    have i3 : (65 : Int) ≤ (c.toNat : Int) := by omega
    have i4 : ¬ (c.toNat : Int) ≤ 90 := by omega
    have i5 : ((c.toNat : Int) == 95) = false := by simp; omega
    clear e h hc
    generalize (c.toNat : Int) = n at *
    go_enter Tryd.func31, Tryd.ntmps31
    go_wp2
    go_ret
    exact ⟨rfl, rfl⟩

theorem spec_isD (c : UInt8) (w : World) : Calls Tryd.prog 33 #[.int .u8 (c.toNat : Int)] w fun e w' => e = .returned (.bool (isD c)) ∧ w' = w := by
  have hc := c.toNat_lt
  have hr : c.toNat < 48 ∨ (48 ≤ c.toNat ∧ c.toNat ≤ 57) ∨ 57 < c.toNat := by omega
  rcases hr with h | h | h
  · have e : isD c = false := by unfold isD; simp; omega
    rw [e]
    have i1 : ¬ (48 : Int) ≤ (c.toNat : Int) := by omega
    have i2 : (c.toNat : Int) ≤ 57 := by omega
    clear e h hc
    generalize (c.toNat : Int) = n at *
    go_enter Tryd.func33, Tryd.ntmps33
    go_wp2
    go_ret
    exact ⟨rfl, rfl⟩
  · have e : isD c = true := by unfold isD; simp; omega
    rw [e]
    have i1 : (48 : Int) ≤ (c.toNat : Int) := by omega
    have i2 : (c.toNat : Int) ≤ 57 := by omega
    clear e h hc
    generalize (c.toNat : Int) = n at *
    go_enter Tryd.func33, Tryd.ntmps33
    go_wp2
    go_ret
    exact ⟨rfl, rfl⟩
  · have e : isD c = false := by unfold isD; simp; omega
    rw [e]
    have i1 : (48 : Int) ≤ (c.toNat : Int) := by omega
    have i2 : ¬ (c.toNat : Int) ≤ 57 := by omega
    clear e h hc
    generalize (c.toNat : Int) = n at *
    go_enter Tryd.func33, Tryd.ntmps33
    go_wp2
    go_ret
    exact ⟨rfl, rfl⟩
/-- whether a piece stands at a place -/
def pre (L : List UInt8) (k : Nat) (p : List UInt8) : Bool := (L.drop k).take p.length == p
theorem drop_slice (T : ByteArray) (k : Nat) (hk : k ≤ T.size) (W : World) : (Instr.slice 9 (.string T) (some (.int .i64 (k : Int))) none none).run Tryd.prog W = .ok (.string (T.extract k T.size)) W := by
  rw [run_slice_string_from_if W 9 T .i64 (k : Int) Tryd.underlying9, if_pos ⟨by omega, by omega⟩]
  simp
end Go.Proofs.YtogenhnonjkanaaDoor
namespace Go.Proofs.YtogenhnonjkanaaDoor
open Go.ChangeShapes Go.WideShapes Go.ChangeAt Go.RowKit
set_option linter.unusedVariables false
theorem has_pre (S p : ByteArray) (z : Bool) (hz : (S.data.toList.take p.data.toList.length == p.data.toList) = z) (w : World) :
    Calls Tryd.prog 74 #[.string S, .string p] w fun e w' => e = .returned (.bool z) ∧ w' = w := by
  have e1 : p.data.toList.length = p.size := by simp
  have e2 : S.data.toList.length = S.size := by simp
  by_cases h : p.size ≤ S.size
  · have hi : (p.size : Int) ≤ (S.size : Int) := by omega
    have hcmp : ((S.extract 0 p.size).toList == p.toList) = z := by
      rw [Lib.extract_toList, Lib.toList_data]; rw [e1] at hz; simpa using hz
    clear hz h e1 e2
    go_enter Tryd.func74, Tryd.ntmps74
    go_wp2
    go_ret
    exact ⟨rfl, rfl⟩
  · have hi : ¬ (p.size : Int) ≤ (S.size : Int) := by omega
    have hz2 : z = false := by
      rw [← hz]
      apply Bool.eq_false_iff.2
      intro g
      have g2 := eq_of_beq g
      have := congrArg List.length g2
      rw [List.length_take] at this
      omega
    subst hz2
    clear hz h e1 e2
    go_enter Tryd.func74, Tryd.ntmps74
    go_wp2
    go_ret
    exact ⟨rfl, rfl⟩
theorem sees_run {B : Nat} {T : ByteArray} {k : Nat} {l : Int} {st : Bool} (p : ByteArray) (z : Bool) (hk : k ≤ T.size) (hz : pre T.data.toList k p.data.toList = z) (w : World) (h : Sb B T k l st w) :
    Calls Tryd.prog 62 #[.pointer (some ⟨B, 0, none⟩), .string p] w fun e w' => e = .returned (.bool z) ∧ ∃ m, w' = w.drewN m := by
  have b0 := h.c0
  have b1 := h.c1
  have hsl : ∀ W : World, (Instr.slice 9 (.string T) (some (.int .i64 (k : Int))) none none).run Tryd.prog W = .ok (.string (T.extract k T.size)) W := drop_slice T k hk
  have H := has_pre (T.extract k T.size) p z (by rw [Lib.extract_data]; unfold pre at hz; rw [← hz]; congr 2; rw [List.take_of_length_le (l := List.drop k T.data.toList)]; simp)
  clear h hz hk
  generalize T.extract k T.size = S at *
  go_enter Tryd.func62, Tryd.ntmps62
  go_wp2_with fail
  go_quiet ((go_at_call 74; exact Calls.quiet_of_same (H _)))
  go_wp2_with fail
  go_ret
  exact ⟨rfl, _, rfl⟩
/-- a byte of the text, 0 behind its end -/
def lk (L : List UInt8) (k : Nat) : UInt8 := L.getD k 0
theorem lk_some {L : List UInt8} {k : Nat} {x : UInt8} (h : L[k]? = some x) : lk L k = x := by unfold lk; rw [List.getD, h]; rfl
theorem lk_none {L : List UInt8} {k : Nat} (h : L.length ≤ k) : lk L k = 0 := by unfold lk; rw [List.getD, List.getElem?_eq_none h]; rfl
theorem spec_look (T : ByteArray) (L : List UInt8) (hT : T.data.toList = L) (k : Nat) (w : World) :
    Calls Tryd.prog 30 #[.string T, .int .i64 (k : Int)] w fun e w' => e = .returned (.int .u8 ((lk L k).toNat : Int)) ∧ w' = w := by
  have hs : T.size = L.length := by rw [← hT]; simp
  by_cases h : k < L.length
  · have hx := List.getElem?_eq_getElem h
    have hix := ix T L hT k _ hx
    rw [lk_some hx]
    generalize ((L[k]).toNat : Int) = xi at *
    have hi : (k : Int) < (T.size : Int) := by omega
    clear hx h hs hT
    go_enter Tryd.func30, Tryd.ntmps30
    go_wp2
    go_ret
    exact ⟨rfl, rfl⟩
  · rw [lk_none (by omega)]
    have hi : ¬ (k : Int) < (T.size : Int) := by omega
    clear h hs hT
    go_enter Tryd.func30, Tryd.ntmps30
    go_wp2
    go_ret
    exact ⟨rfl, rfl⟩
/-- how many bytes are blank -/
def skb : Bool → List UInt8 → Nat
  | _, [] => 0
  | true, c :: r => if c.toNat = 10 then 0 else 1 + skb true r
  | false, c :: r => if c.toNat = 32 ∨ c.toNat = 9 ∨ c.toNat = 13 then 1 + skb false r else if c.toNat = 45 ∧ r.head? = some 45 then 1 + skb true r else 0
theorem skb_t (c : UInt8) (r : List UInt8) : skb true (c :: r) = if c.toNat = 10 then 0 else 1 + skb true r := by rw [skb]
theorem skb_f (c : UInt8) (r : List UInt8) : skb false (c :: r) = if c.toNat = 32 ∨ c.toNat = 9 ∨ c.toNat = 13 then 1 + skb false r else if c.toNat = 45 ∧ r.head? = some 45 then 1 + skb true r else 0 := by rw [skb]
theorem skb_le : ∀ (b : Bool) (r : List UInt8), skb b r ≤ r.length
  | _, [] => by simp [skb]
  | true, c :: r => by unfold skb; have := skb_le true r; split <;> simp <;> omega
  | false, c :: r => by
    unfold skb; have := skb_le true r; have := skb_le false r
    split
    · simp; omega
    · split <;> simp <;> omega
theorem skb_true_end : ∀ (r : List UInt8), skb false (r.drop (skb true r)) = 0
  | [] => by simp [skb]
  | c :: r => by
    rw [skb_t]
    by_cases h : c.toNat = 10
    · rw [if_pos h]; simp [skb_f, h]
    · rw [if_neg h, Nat.add_comm]; simpa using skb_true_end r
/-- where the blanks end -/
def bl (L : List UInt8) (k : Nat) : Nat := k + skb false (L.drop k)
theorem bl_le (L : List UInt8) (k : Nat) (hk : k ≤ L.length) : bl L k ≤ L.length := by
  unfold bl; have := skb_le false (L.drop k); rw [List.length_drop] at this; omega
theorem drop_cons {L : List UInt8} {k : Nat} {x : UInt8} (h : L[k]? = some x) : L.drop k = x :: L.drop (k + 1) := by
  obtain ⟨h1, h2⟩ := List.getElem?_eq_some_iff.1 h
  rw [List.drop_eq_getElem_cons h1, h2]
theorem bl_end {L : List UInt8} {k : Nat} (h : L.length ≤ k) : bl L k = k := by unfold bl; rw [List.drop_eq_nil_of_le h]; simp [skb]
theorem bl_blank {L : List UInt8} {k : Nat} {x : UInt8} (h : L[k]? = some x) (hx : x.toNat = 32 ∨ x.toNat = 9 ∨ x.toNat = 13) : bl L k = bl L (k + 1) := by
  unfold bl; rw [drop_cons h, skb_f, if_pos hx]; omega
/-- the end of a remark -/
def rem (L : List UInt8) (k : Nat) : Nat := k + skb true (L.drop k)
theorem bl_remark {L : List UInt8} {k : Nat} (h : L[k]? = some 45) (h2 : L[k + 1]? = some 45) : bl L k = rem L k ∧ bl L (rem L k) = rem L k ∧ k < rem L k := by
  have e : L.drop k = 45 :: L.drop (k + 1) := drop_cons h
  have hh : (L.drop (k + 1)).head? = some 45 := by rw [drop_cons h2]; rfl
  have e1 : skb false (L.drop k) = 1 + skb true (L.drop (k + 1)) := by
    rw [e, skb_f, if_neg (by decide), if_pos ⟨by decide, hh⟩]
  have e2 : skb true (L.drop k) = 1 + skb true (L.drop (k + 1)) := by
    rw [e, skb_t, if_neg (by decide)]
  have e3 := skb_true_end (L.drop k)
  rw [List.drop_drop] at e3
  refine ⟨by unfold bl rem; omega, ?_, by unfold rem; omega⟩
  show rem L k + skb false (L.drop (rem L k)) = rem L k
  have : rem L k = k + skb true (L.drop k) := rfl
  rw [this, e3]
  rfl
theorem bl_other {L : List UInt8} {k : Nat} {x : UInt8} (h : L[k]? = some x) (hx : ¬ (x.toNat = 32 ∨ x.toNat = 9 ∨ x.toNat = 13)) (h2 : ¬ (x.toNat = 45 ∧ L[k + 1]? = some 45)) : bl L k = k := by
  unfold bl
  rw [drop_cons h, skb_f, if_neg hx, if_neg (by rw [List.head?_drop]; exact h2)]
  rfl
theorem rem_end {L : List UInt8} {k : Nat} (h : L.length ≤ k) : rem L k = k := by unfold rem; rw [List.drop_eq_nil_of_le h]; simp [skb]
theorem rem_nl {L : List UInt8} {k : Nat} {x : UInt8} (h : L[k]? = some x) (hx : x.toNat = 10) : rem L k = k := by unfold rem; rw [drop_cons h, skb_t, if_pos hx]; rfl
theorem rem_step {L : List UInt8} {k : Nat} {x : UInt8} (h : L[k]? = some x) (hx : ¬ x.toNat = 10) : rem L k = rem L (k + 1) := by
  unfold rem; rw [drop_cons h, skb_t, if_neg hx]; omega
theorem rem_le (L : List UInt8) (k : Nat) (hk : k ≤ L.length) : rem L k ≤ L.length := by
  unfold rem; have := skb_le true (L.drop k); rw [List.length_drop] at this; omega
theorem rem_ge (L : List UInt8) (k : Nat) : k ≤ rem L k := by unfold rem; omega
theorem bl_ge (L : List UInt8) (k : Nat) : k ≤ bl L k := by unfold bl; omega
end Go.Proofs.YtogenhnonjkanaaDoor
namespace Go.Proofs.YtogenhnonjkanaaDoor
open Go.ChangeShapes Go.WideShapes Go.ChangeAt Go.RowKit
set_option linter.unusedVariables false
/-- each byte of the text can be read -/
def IxAll (T : ByteArray) (L : List UInt8) : Prop := ∀ (k : Nat) (c : UInt8), L[k]? = some c → ∀ w : World, (Instr.index 9 (.string T) (.int .i64 (k : Int))).run Tryd.prog w = .ok (.int .u8 (c.toNat : Int)) w
def LkAll (T : ByteArray) (L : List UInt8) : Prop := ∀ (k : Nat) (w : World), Calls Tryd.prog 30 #[.string T, .int .i64 (k : Int)] w fun e w' => e = .returned (.int .u8 ((lk L k).toNat : Int)) ∧ w' = w
theorem nat_bne {x : UInt8} {n : Nat} (h : ¬ x.toNat = n) : ((x.toNat : Int) != (n : Int)) = true := by simp; omega
theorem nat_ne {x : UInt8} {n : Nat} (h : ¬ x.toNat = n) : ((x.toNat : Int) == (n : Int)) = false := by simp; omega
set_option maxRecDepth 100000 in
set_option maxHeartbeats 1000000 in
theorem spec_blanks (T : ByteArray) (L : List UInt8) (hT : T.data.toList = L) (hlen : L.length ≤ 65536) (k : Nat) (hk : k ≤ L.length) (w : World) :
    Calls Tryd.prog 14 #[.string T, .int .i64 (k : Int)] w fun e w' => e = .returned (.int .i64 (bl L k : Int)) ∧ w' = w := by
  have hs : T.size = L.length := by rw [← hT]; simp
  have HX : IxAll T L := fun j c hj => ix T L hT j c hj
  have HL : LkAll T L := fun j => spec_look T L hT j
  obtain ⟨M, hM, hLM⟩ : ∃ M : Int, M ≤ 65536 ∧ (L.length : Int) ≤ M := ⟨L.length, by omega, Int.le_refl _⟩
  clear hT hlen
  go_enter Tryd.func14, Tryd.ntmps14
  go_wp2_with fail
  go_loop [1] (fun a => ∃ j : Nat, a = .int .i64 j ∧ j ≤ L.length ∧ Hid (bl L k = bl L j)) (fun a => L.length - (intOf a).toNat)
  case atStart => exact ⟨k, rfl, hk, (rfl : bl L k = bl L k)⟩
  case round =>
    obtain ⟨j, rfl, hj, HB⟩ := hrel
    have hB := (show bl L k = bl L j from HB)
    by_cases hjn : j < L.length
    · have hx := List.getElem?_eq_getElem hjn
      have hix := HX j _ hx
      have hjI : (j : Int) < M := by omega
      generalize L[j] = x at hx hix
      by_cases hb : x.toNat = 32 ∨ x.toNat = 9 ∨ x.toNat = 13
      · have HN : Hid (bl L k = bl L (j + 1)) := (hB.trans (bl_blank hx hb) : bl L k = bl L (j + 1))
        clear hB HB HL HX hx
        rcases hb with hb | hb | hb
        all_goals
          have hxi : (x.toNat : Int) = ((x.toNat : Nat) : Int) := rfl
          rw [hb] at hix
          clear hxi hb
          go_wp2_with fail
          refine ⟨⟨j + 1, by go_num, by omega, HN⟩, ?_⟩
          simp [intOf]; omega
      · have n32 : ((x.toNat : Int) == 32) = false := nat_ne (n := 32) (by omega)
        have n9 : ((x.toNat : Int) == 9) = false := nat_ne (n := 9) (by omega)
        have n13 : ((x.toNat : Int) == 13) = false := nat_ne (n := 13) (by omega)
        by_cases h45 : x.toNat = 45
        · have hl := HL (j + 1)
          by_cases h2 : L[j + 1]? = some 45
          · rw [lk_some h2] at hl
            have hx45 : x = 45 := UInt8.toNat_inj.1 h45
            subst hx45
            obtain ⟨r1, r2, r3⟩ := bl_remark hx h2
            have hr4 := rem_le L j hj
            have HN : Hid (bl L k = bl L (rem L j)) := (hB.trans (r1.trans r2.symm) : bl L k = bl L (rem L j))
            have hl' : ∀ w, Calls Tryd.prog 30 #[.string T, .int .i64 ((j : Int) + 1)] w fun e w' => e = .returned (.int .u8 45) ∧ w' = w := hl
            clear hB HB HL hx h2 r1 r2 hl hb h45
            have hix' : ∀ w, (Instr.index 9 (.string T) (.int .i64 (j : Int))).run Tryd.prog w = .ok (.int .u8 45) w := hix
            clear hix
            go_wp2_with fail
            refine (hl' _).mono ?_
            rintro e w1 ⟨rfl, rfl⟩
            clear hl'
            go_wp2_with fail
            clear hix'
            go_loop [1] (fun a => ∃ i : Nat, a = .int .i64 i ∧ j ≤ i ∧ i ≤ L.length ∧ Hid (rem L j = rem L i)) (fun a => L.length - (intOf a).toNat)
            case atStart => exact ⟨j, rfl, Nat.le_refl _, hj, (rfl : rem L j = rem L j)⟩
            case round =>
              obtain ⟨i, rfl, hji, hi, HR⟩ := hrel
              have hR := (show rem L j = rem L i from HR)
              by_cases hin : i < L.length
              · have hy := List.getElem?_eq_getElem hin
                have hiy := HX i _ hy
                have hiI : (i : Int) < M := by omega
                generalize L[i] = y at hy hiy
                by_cases h10 : y.toNat = 10
                · have e : rem L j = i := hR.trans (rem_nl hy h10)
                  have HN2 : Hid (bl L k = bl L i) := by rw [← e]; exact HN
                  have hjlt : j < i := by omega
                  rw [h10] at hiy
                  clear HX hR HR HN r3 hr4 e hy h10
                  go_wp2_with fail
                  refine ⟨⟨i, rfl, by omega, HN2⟩, ?_⟩
                  simp [intOf]; omega
                · have HN2 : Hid (rem L j = rem L (i + 1)) := (hR.trans (rem_step hy h10) : rem L j = rem L (i + 1))
                  have n10 : ((y.toNat : Int) != 10) = true := nat_bne (n := 10) h10
                  clear HX hR HR HN r3 hr4 hy h10
                  generalize (y.toNat : Int) = yi at *
                  go_wp2_with fail
                  refine ⟨⟨i + 1, by go_num, by omega, by omega, HN2⟩, ?_⟩
                  simp [intOf]; omega
              · have e : rem L j = i := hR.trans (rem_end (by omega))
                have HN2 : Hid (bl L k = bl L i) := by rw [← e]; exact HN
                have hjlt : j < i := by omega
                have hnl : ¬ (i : Int) < (T.size : Int) := by omega
                clear HX hR HR HN r3 hr4 e
                go_wp2_with fail
                refine ⟨⟨i, rfl, by omega, HN2⟩, ?_⟩
                simp [intOf]; omega
          · have e : bl L k = j := hB.trans (bl_other hx hb (fun h => h2 h.2))
            have hne : (((lk L (j + 1)).toNat : Int) != 45) = true := by
              apply nat_bne (n := 45)
              intro g
              apply h2
              cases hq : L[j + 1]? with
              | none => rw [lk_none (List.getElem?_eq_none_iff.1 hq)] at g; simp at g
              | some y => rw [lk_some hq] at g; rw [UInt8.toNat_inj.1 (show y.toNat = (45 : UInt8).toNat from g)]
            have hl' : ∀ w, Calls Tryd.prog 30 #[.string T, .int .i64 ((j : Int) + 1)] w fun e w' => e = .returned (.int .u8 ((lk L (j + 1)).toNat : Int)) ∧ w' = w := hl
            have HE : Hid (bl L k = j) := e
            rw [h45] at hix
            clear hB HB HL HX hl hx h2 hb h45 n32 n9 n13 e
            generalize ((lk L (j + 1)).toNat : Int) = yi at *
            go_wp2_with fail
            refine (hl' _).mono ?_
            rintro e w1 ⟨rfl, rfl⟩
            clear hl'
            go_wp2_with fail
            go_ret
            exact ⟨by rw [show bl L k = j from HE]; rfl, rfl⟩
        · have e : bl L k = j := hB.trans (bl_other hx hb (fun h => h45 h.1))
          have n45 : ((x.toNat : Int) != 45) = true := nat_bne (n := 45) h45
          have HE : Hid (bl L k = j) := e
          clear hB HB HL HX hx hb h45 e
          generalize (x.toNat : Int) = xi at *
          go_wp2_with fail
          go_ret
          exact ⟨by rw [show bl L k = j from HE]; rfl, rfl⟩
    · have e : bl L k = j := hB.trans (bl_end (by omega))
      have HE : Hid (bl L k = j) := e
      have hnl : ¬ (j : Int) < (T.size : Int) := by omega
      clear hB HB HL HX e
      go_wp2_with fail
      go_ret
      exact ⟨by rw [show bl L k = j from HE]; rfl, rfl⟩
end Go.Proofs.YtogenhnonjkanaaDoor
