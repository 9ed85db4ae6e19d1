import Derived.Test.YtogenhnonjkanaaDoorRows
import Derived.WalkKit
import Derived.ProofKit
import Derived.OpenShut
import Derived.Handy
import Derived.Laws.Strings3
import Derived.Lib.Strings
import Derived.Laws.OwnMore
import Derived.Laws.IdiomStrings
import Derived.Lib.UnsafeStr
import Derived.Deep.QuietTactic
import Derived.BigQuiet
import Derived.Deep.AppendLies
namespace Go.Proofs.YtogenhnonjkanaaDoor
open Go.ChangeShapes Go.WideShapes Go.ChangeAt Go.RowKit
set_option linter.unusedVariables false
theorem byte_at (s : ByteArray) (i : Nat) (hi : i < s.size) : s[i] = s.data.toList.getD i 0 := by
  have h' : i < s.data.toList.length := by simpa using hi
  rw [List.getD, List.getElem?_eq_getElem h']
  simp
  rfl
/-- the digits of a byte in hexadecimal -/
def hxs : List UInt8 := [48, 49, 50, 51, 52, 53, 54, 55, 56, 57, 97, 98, 99, 100, 101, 102]
def hx (d : Nat) : UInt8 := hxs.getD d 0
/-- a byte as an element of a string -/
def qel (b : UInt8) : List UInt8 :=
  if b.toNat = 10 then [92, 110] else if b.toNat = 9 then [92, 116] else if b.toNat = 34 then [92, 34] else if b.toNat = 92 then [92, 92]
  else if b.toNat < 32 ∨ 126 < b.toNat then [92, 120, hx (b.toNat / 16), hx (b.toNat % 16)] else [b]
theorem qel_len (b : UInt8) : (qel b).length ≤ 4 := by unfold qel; repeat' split
                                                       all_goals simp
/-- the first k bytes, quoted, with the mark ahead -/
def quo (L : List UInt8) (k : Nat) : List UInt8 := 34 :: (L.take k).flatMap qel
theorem quo_zero (L : List UInt8) : quo L 0 = [34] := by simp [quo]
theorem quo_succ (L : List UInt8) (k : Nat) (x : UInt8) (h : L[k]? = some x) : quo L (k + 1) = quo L k ++ qel x := by
  have : L.take (k + 1) = L.take k ++ [x] := by rw [List.take_add_one, h]; rfl
  simp [quo, this]
theorem quo_len (L : List UInt8) : ∀ k, (quo L k).length ≤ 1 + 4 * k
  | 0 => by simp [quo]
  | k + 1 => by
    have ih := quo_len L k
    cases h : L[k]? with
    | none =>
      have : L.take (k + 1) = L.take k := by rw [List.take_add_one, h]; simp
      have e : quo L (k + 1) = quo L k := by simp [quo, this]
      rw [e]; omega
    | some x => rw [quo_succ L k x h, List.length_append]; have := qel_len x; omega
theorem bc_append (a b : List UInt8) : Lib.byteCells (a ++ b) = Lib.byteCells a ++ Lib.byteCells b := by simp [Lib.byteCells]
theorem bc_len (a : List UInt8) : (Lib.byteCells a).length = a.length := by simp [Lib.byteCells]
theorem ix (T : ByteArray) (L : List UInt8) (hT : T.data.toList = L) (k : Nat) (c : UInt8) (hk : L[k]? = some c) (w : World) :
    (Instr.index 9 (.string T) (.int .i64 (k : Int))).run Tryd.prog w = .ok (.int .u8 (c.toNat : Int)) w := by
  subst hT
  have hlt : k < T.size := by
    have := (List.getElem?_eq_some_iff.1 hk).1
    simpa using this
  rw [run_index_string w 9 T .i64 _ Tryd.underlying9, dif_pos ⟨by omega, by omega⟩]
  have e : ((k : Int)).toNat = k := by omega
  simp only [e]
  rw [byte_at _ k hlt]
  have : T.data.toList.getD k 0 = c := by rw [List.getD, hk]; rfl
  rw [this]
theorem ixd : ∀ i : Fin 16, (⟨#[48, 49, 50, 51, 52, 53, 54, 55, 56, 57, 97, 98, 99, 100, 101, 102]⟩ : ByteArray).data.toList[i.val]? = some (hx i.val) := by decide +kernel
theorem ixh (r : Nat) (hr : r < 16) (w : World) :
    (Instr.index 9 (.string ⟨#[48, 49, 50, 51, 52, 53, 54, 55, 56, 57, 97, 98, 99, 100, 101, 102]⟩) (.int .u8 (r : Int))).run Tryd.prog w = .ok (.int .u8 ((hx r).toNat : Int)) w := by
  have hk := ixd ⟨r, hr⟩
  have hsz : (⟨#[48, 49, 50, 51, 52, 53, 54, 55, 56, 57, 97, 98, 99, 100, 101, 102]⟩ : ByteArray).size = 16 := by decide
  rw [run_index_string w 9 _ .u8 _ Tryd.underlying9, dif_pos ⟨by omega, by rw [hsz]; omega⟩]
  have e : ((r : Int)).toNat = r := by omega
  simp only [e]
  rw [byte_at _ r (by rw [hsz]; omega)]
  have : (⟨#[48, 49, 50, 51, 52, 53, 54, 55, 56, 57, 97, 98, 99, 100, 101, 102]⟩ : ByteArray).data.toList.getD r 0 = hx r := by rw [List.getD, hk]; rfl
  rw [this]
theorem info5 : (Tryd.prog.info? 5).map (fun i => (i.zero, i.size, i.bytes)) = some (some (.int .u8 0), 1, 1) := by kernel_rfl
/-- what stands between two rounds -/
def QR (w : World) (l : List UInt8) (v : Value) (wr : World) : Prop := wr.ownsRow w.heap.size 5 1 v l.length (Lib.byteCells l) ∧ Below w.heap.size w wr
theorem qr_step {w wr w1 : World} {l m : List UInt8} {v v' : Value} {o : Obj} (h : QR w l v wr) (ho : w1.ownsRow w.heap.size 5 1 v' (l.length + m.length) (Lib.byteCells l ++ Lib.byteCells m)) (hg : (wr.alloc o).grownBy w1 v.ownBlock) : QR w (l ++ m) v' w1 := by
  obtain ⟨h1, h2⟩ := h
  refine ⟨by rw [List.length_append, bc_append]; exact ho, ?_⟩
  exact (h2.alloc h2.size o).grown hg (by have := h2.size; simp; omega) (fun k hk => (h1.lt k hk).1)
theorem qr_cells (w : World) (c : Array Value) (t : TypeId) (l : List Value) (hl : c.toList = l) : ∀ j u, l[j]? = some u → (w.alloc (.cells c t)).cell? ((⟨w.heap.size, 0, none⟩ : Addr).add j) = some u := by
  intro j u hj
  subst hl
  have e : (⟨w.heap.size, 0, none⟩ : Addr).add j = ⟨w.heap.size, j, none⟩ := by simp [Addr.add]; intro h; exact h.symm
  rw [e, World.cell?_alloc_mark]
  simpa using hj
theorem bc_one (l : List UInt8) : ∀ u ∈ Lib.byteCells l, u.oneCell' = true := by
  intro u hu
  simp [Lib.byteCells] at hu
  obtain ⟨a, _, rfl⟩ := hu
  rfl
theorem conv_row {w wr : World} {l : List UInt8} {v : Value} (hl : l ≠ []) (h : QR w l v wr) : (convert 66 9 v).run Tryd.prog wr = .ok (.string ⟨l.toArray⟩) wr := by
  obtain ⟨h1, h2⟩ := h
  obtain ⟨g, cap, rfl, _, _⟩ := World.ownsRow.form h1 (by cases l with | nil => exact (hl rfl).elim | cons a b => simp)
  refine run_convert_bytes_back wr 66 9 5 _ cap l Tryd.underlying66 Tryd.underlying5 Tryd.underlying9 (fun j hj => ?_)
  have := h1.cells (g := g) rfl j (.int .u8 (l[j].toNat : Int)) (by simp [Lib.byteCells, hj])
  exact this
end Go.Proofs.YtogenhnonjkanaaDoor
