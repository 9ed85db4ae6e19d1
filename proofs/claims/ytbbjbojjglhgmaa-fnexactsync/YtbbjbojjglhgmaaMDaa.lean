import Derived.Test.YtbbjbojjglhgmaaMSua
import Derived.Test.YtbbjbojjglhgmaaMGbb
namespace Go.Proofs.Ytbbjbojjglhgmaa.Fo
open Go.ChangeShapes Go.WideShapes Go.ChangeAt Go.RowKit
set_option linter.unusedVariables false
set_option maxRecDepth 100000
/-- bytes, with what may stand ahead of them: whether it is a Sync, which block -/
structure Ed where
  s : Bool
  b : Int
  c : Nat
  A : Nat → Int
instance : Inhabited Ed := ⟨⟨false, 0, 0, fun _ => 0⟩⟩
/-- what stands ahead of the bytes, in rows of elements of K cells -/
def hdl : Nat → Ed → List Value
  | 1, _ => []
  | 2, e => [.int .i64 e.b]
  | 3, e => [.bool e.s, .int .i64 e.b]
  | _, _ => []
def ub (A : Nat → Int) : Nat → Value := fun i => .int .u8 (A i)
/-- an element in its place -/
def ElC (K b : Nat) (W : World) (p : Addr) (e : Ed) : Prop := ∃ v, W.cell? p = (hdl K e ++ [v])[0]? ∧ (∀ t, 0 < t → t < K → W.cell? ⟨p.block, p.off + t, none⟩ = (hdl K e ++ [v])[t]?) ∧ RowB b W v e.c (ub e.A)
theorem hd_len {K : Nat} (hK : K = 1 ∨ K = 2 ∨ K = 3) (e : Ed) (v : Value) : (hdl K e ++ [v]).length = K := by
  rcases hK with rfl | rfl | rfl <;> rfl
theorem keepA {a w : World} {c : Nat} (h : Kb c a w) {b : Addr} {o : Option Value} (hb : c ≤ b.block) (hs : o.isSome = true) (hc : a.cell? b = o) : w.cell? b = o := by
  cases o with
  | none => cases hs
  | some v => exact h.cellA hb hc
theorem hd_some {K : Nat} (hK : K = 1 ∨ K = 2 ∨ K = 3) (e : Ed) (v : Value) {t : Nat} (ht : t < K) : ((hdl K e ++ [v])[t]?).isSome = true := by
  rw [List.getElem?_eq_getElem (by rw [hd_len hK]; exact ht)]; rfl
theorem ElC.keep {K b : Nat} {W W' : World} {p : Addr} {e : Ed} (hK : K = 1 ∨ K = 2 ∨ K = 3) (h : ElC K b W p e) (hb : b ≤ p.block) (k : Kb b W W') : ElC K b W' p e := by
  obtain ⟨v, h1, h2, h3⟩ := h
  exact ⟨v, keepA k hb (hd_some hK e v (by omega)) h1, fun t t0 t1 => keepA k hb (hd_some hK e v t1) (h2 t t0 t1), h3.keep k⟩
theorem ElC.mono {K b c : Nat} {W : World} {p : Addr} {e : Ed} (h : ElC K b W p e) (hc : c ≤ b) : ElC K c W p e := by
  obtain ⟨v, h1, h2, h3⟩ := h
  exact ⟨v, h1, h2, h3.mono hc⟩
/-- a row of elements, none of its blocks before b -/
def RowE (K b : Nat) (W : World) (v : Value) (n : Nat) (F : Nat → Ed) : Prop :=
  ∃ pa cap, v = .slice pa n cap ∧ (0 < n → ∃ a : Addr, pa = some a ∧ n ≤ cap ∧ b ≤ a.block ∧ ∀ i, i < n → ElC K b W (a.add (i * K)) (F i))
theorem RowE.keep {K b : Nat} {W W' : World} {v : Value} {n : Nat} {F : Nat → Ed} (hK : K = 1 ∨ K = 2 ∨ K = 3) (h : RowE K b W v n F) (k : Kb b W W') : RowE K b W' v n F := by
  obtain ⟨pa, cap, h1, h2⟩ := h
  refine ⟨pa, cap, h1, fun hn => ?_⟩
  obtain ⟨a, e1, e2, e0, e3⟩ := h2 hn
  exact ⟨a, e1, e2, e0, fun i hi => (e3 i hi).keep hK (by rw [add_block]; exact e0) k⟩
theorem RowE.mono {K b c : Nat} {W : World} {v : Value} {n : Nat} {F : Nat → Ed} (h : RowE K b W v n F) (hc : c ≤ b) : RowE K c W v n F := by
  obtain ⟨pa, cap, h1, h2⟩ := h
  refine ⟨pa, cap, h1, fun hn => ?_⟩
  obtain ⟨a, e1, e2, e0, e3⟩ := h2 hn
  exact ⟨a, e1, e2, Nat.le_trans hc e0, fun i hi => (e3 i hi).mono hc⟩
/-- the cells of a row -/
def Cs (K : Nat) (W : World) (g n : Nat) (E : Nat → List Value) : Prop := ∀ j, j < n → ∀ t, t < K → W.cell? ⟨g, j * K + t, none⟩ = (E j)[t]?
theorem apart {K i j : Nat} (h : j ≠ i) {t : Nat} (ht : t < K) : j * K + t < i * K ∨ i * K + K ≤ j * K + t := by
  rcases Nat.lt_or_gt_of_ne h with q | q
  · left
    have : (j + 1) * K ≤ i * K := Nat.mul_le_mul_right K q
    rw [Nat.add_mul] at this; omega
  · right
    have : (i + 1) * K ≤ j * K := Nat.mul_le_mul_right K q
    rw [Nat.add_mul] at this; omega
theorem Cs.set {K : Nat} {W : World} {g n i : Nat} {E : Nat → List Value} (h : Cs K W g n E) (hi : i < n) (hE : ∀ j, j < n → (E j).length = K) {l : List Value} (hl : l.length ≤ K) : Cs K (setL W g (i * K) l) g n (fun j => if j = i then l ++ (E i).drop l.length else E j) := by
  intro j hj t ht
  dsimp only
  by_cases e : j = i
  · subst e
    rw [if_pos rfl]
    rcases Nat.lt_or_ge t l.length with q | q
    · rw [List.getElem?_append_left q]
      refine setL_at g l W (j * K) (fun u hu => ?_) t q
      rw [h j hj u (by omega), List.getElem?_eq_getElem (by rw [hE j hj]; omega)]
      exact ⟨_, rfl⟩
    · rw [List.getElem?_append_right q, List.getElem?_drop, show l.length + (t - l.length) = t by omega, setL_far g _ l W (j * K) (by omega)]
      exact h j hj t ht
  · rw [if_neg e, setL_far g _ l W (i * K) (by rcases apart e ht with q | q <;> omega)]
    exact h j hj t ht
theorem Cs.block {K : Nat} {W W' : World} {g n : Nat} {E : Nat → List Value} (h : Cs K W g n E) (hb : 0 < n → W'.heap[g]? = W.heap[g]?) : Cs K W' g n E := fun j hj t ht => (World.cell?_of_block (hb (by omega))).trans (h j hj t ht)
/-- elements in blocks of their own, between L and H -/
structure OwE (K L H : Nat) (W : World) (v : Value) (n : Nat) (F : Nat → Ed) (g : Nat) (V : Nat → Value) (G : Nat → Nat) : Prop where
  sl : ∃ p cap, v = .slice p n cap ∧ (0 < n → p = some ⟨g, 0, none⟩ ∧ n ≤ cap)
  bg : 0 < n → L ≤ g ∧ g < H
  cs : Cs K W g n (fun j => hdl K (F j) ++ [V j])
  fz : 0 < n → ∀ j, W.frozen? ⟨g, j, none⟩ = false
  ow : ∀ i, i < n → OwnR W (V i) (G i) (F i).c (ub (F i).A)
  lo : ∀ i, i < n → 0 < (F i).c → L ≤ G i ∧ G i < H ∧ G i ≠ g
  di : ∀ i j, i < n → j < n → i ≠ j → 0 < (F i).c → 0 < (F j).c → G i ≠ G j
theorem OwE.block {K L H : Nat} {W W' : World} {v : Value} {n : Nat} {F : Nat → Ed} {g : Nat} {V : Nat → Value} {G : Nat → Nat} (h : OwE K L H W v n F g V G) (hb : ∀ q, L ≤ q → q < H → W'.heap[q]? = W.heap[q]?) : OwE K L H W' v n F g V G := by
  refine ⟨h.sl, h.bg, h.cs.block (fun hn => hb g (h.bg hn).1 (h.bg hn).2), fun hn j => (World.frozen?_of_block (hb g (h.bg hn).1 (h.bg hn).2)).trans (h.fz hn j), fun i hi => ?_, h.lo, h.di⟩
  exact (h.ow i hi).kb (fun hc => hb _ (h.lo i hi (by omega)).1 (h.lo i hi (by omega)).2.1)
theorem OwE.wide {K L H L' H' : Nat} {W : World} {v : Value} {n : Nat} {F : Nat → Ed} {g : Nat} {V : Nat → Value} {G : Nat → Nat} (h : OwE K L H W v n F g V G) (hL : L' ≤ L) (hH : H ≤ H') : OwE K L' H' W v n F g V G :=
  ⟨h.sl, fun hn => ⟨Nat.le_trans hL (h.bg hn).1, Nat.lt_of_lt_of_le (h.bg hn).2 hH⟩, h.cs, h.fz, h.ow, fun i hi hc => ⟨Nat.le_trans hL (h.lo i hi hc).1, Nat.lt_of_lt_of_le (h.lo i hi hc).2.1 hH, (h.lo i hi hc).2.2⟩, h.di⟩
/-- such elements can be read -/
theorem OwE.rowE {K L H : Nat} {W : World} {v : Value} {n : Nat} {F : Nat → Ed} {g : Nat} {V : Nat → Value} {G : Nat → Nat} (hK : K = 1 ∨ K = 2 ∨ K = 3) (h : OwE K L H W v n F g V G) : RowE K L W v n F := by
  obtain ⟨p, cap, h1, h2⟩ := h.sl
  refine ⟨p, cap, h1, fun hn => ⟨⟨g, 0, none⟩, (h2 hn).1, (h2 hn).2, (h.bg hn).1, fun i hi => ⟨V i, ?_, fun t t0 t1 => ?_, ?_⟩⟩⟩
  · rw [addr0]
    have := h.cs i hi 0 (by omega)
    simpa using this
  · rw [addr0]
    exact h.cs i hi t t1
  · obtain ⟨p', c', e1, e2⟩ := (h.ow i hi).sl
    refine ⟨p', c', e1, fun hc => ?_⟩
    exact ⟨⟨G i, 0, none⟩, (e2 hc).1, (e2 hc).2, (h.lo i hi hc).1, fun j hj => by rw [addr0]; exact (h.ow i hi).cell j hj⟩
/-- what a marking writes ahead of the bytes -/
def hml : Nat → Int → List Value
  | 1, _ => []
  | 2, k => [.int .i64 k]
  | 3, k => [.bool (k % 3 == 0), .int .i64 (k + 1)]
  | _, _ => []
theorem hm_len {K : Nat} (hK : K = 1 ∨ K = 2 ∨ K = 3) (k : Int) : (hml K k).length = K - 1 := by
  rcases hK with rfl | rfl | rfl <;> rfl
/-- how many marks an element takes -/
def mks (K : Nat) (F : Nat → Ed) : Nat → Nat := fun i => K - 1 + (F i).c
theorem setL_tape (g : Nat) : ∀ (l : List Value) (W : World) (o : Nat), (setL W g o l).tape = W.tape
  | [], _, _ => rfl
  | v :: r, W, o => by unfold setL; exact setL_tape g r _ _
/-- such elements, marked from k on -/
structure MdE (K L H : Nat) (W : World) (v : Value) (n : Nat) (F : Nat → Ed) (g : Nat) (V : Nat → Value) (G : Nat → Nat) (k : Int) : Prop where
  sl : ∃ p cap, v = .slice p n cap ∧ (0 < n → p = some ⟨g, 0, none⟩ ∧ n ≤ cap)
  bg : 0 < n → L ≤ g ∧ g < H
  cs : Cs K W g n (fun j => hml K (k + (sm (mks K F) j : Int)) ++ [V j])
  md : ∀ i, i < n → OwnR W (V i) (G i) (F i).c (fun j => .int .u8 ((k + (sm (mks K F) i : Int) + ((K - 1 : Nat) : Int) + (j : Int)) % 256))
  lo : ∀ i, i < n → 0 < (F i).c → L ≤ G i ∧ G i < H
theorem MdE.block {K L H : Nat} {W W' : World} {v : Value} {n : Nat} {F : Nat → Ed} {g : Nat} {V : Nat → Value} {G : Nat → Nat} {k : Int} (h : MdE K L H W v n F g V G k) (hb : ∀ q, L ≤ q → q < H → W'.heap[q]? = W.heap[q]?) : MdE K L H W' v n F g V G k := by
  refine ⟨h.sl, h.bg, h.cs.block (fun hn => hb g (h.bg hn).1 (h.bg hn).2), fun i hi => ?_, h.lo⟩
  exact (h.md i hi).kb (fun hc => hb _ (h.lo i hi (by omega)).1 (h.lo i hi (by omega)).2)
/-- a marking under way: i elements are marked -/
structure GE (K L H : Nat) (W : World) (n : Nat) (F : Nat → Ed) (g : Nat) (V : Nat → Value) (G : Nat → Nat) (k : Int) (i : Nat) (wr : World) : Prop where
  kq : Kq (fun q => L ≤ q ∧ q < H) W wr
  cs : Cs K wr g n (fun j => if j < i then hml K (k + (sm (mks K F) j : Int)) ++ [V j] else hdl K (F j) ++ [V j])
  fz : ∀ j, wr.frozen? ⟨g, j, none⟩ = false
  ow : ∀ j, i ≤ j → j < n → OwnR wr (V j) (G j) (F j).c (ub (F j).A)
  md : ∀ j, j < i → OwnR wr (V j) (G j) (F j).c (fun t => .int .u8 ((k + (sm (mks K F) j : Int) + ((K - 1 : Nat) : Int) + (t : Int)) % 256))
theorem GE.step {K L H : Nat} {W : World} {n : Nat} {F : Nat → Ed} {g : Nat} {V : Nat → Value} {G : Nat → Nat} {k : Int} {i : Nat} {wr w6 : World} (hK : K = 1 ∨ K = 2 ∨ K = 3) (h : GE K L H W n F g V G k i wr) (hi : i < n) (bg : L ≤ g ∧ g < H) (lo : ∀ i, i < n → 0 < (F i).c → L ≤ G i ∧ G i < H ∧ G i ≠ g) (di : ∀ i j, i < n → j < n → i ≠ j → 0 < (F i).c → 0 < (F j).c → G i ≠ G j)
    (kq6 : Kq (fun q => 0 < (F i).c ∧ q = G i) (setL wr g (i * K) (hml K (k + (sm (mks K F) i : Int)))) w6) (md6 : OwnR w6 (V i) (G i) (F i).c (fun t => .int .u8 ((k + (sm (mks K F) i : Int) + ((K - 1 : Nat) : Int) + (t : Int)) % 256))) : GE K L H W n F g V G k (i + 1) w6 := by
  obtain ⟨y, hy⟩ : ∃ y, y = setL wr g (i * K) (hml K (k + (sm (mks K F) i : Int))) := ⟨_, rfl⟩
  rw [← hy] at kq6
  have hys : y.heap.size = wr.heap.size := by rw [hy]; exact setL_size _ _ _ _
  have hyb : ∀ q, q ≠ g → y.heap[q]? = wr.heap[q]? := fun q hq => by rw [hy]; exact setL_block _ _ hq _ _ _
  have hgl : g < wr.heap.size := by
    have := h.cs i hi 0 (by omega)
    dsimp only at this
    rw [if_neg (by omega)] at this
    have hs := hd_some hK (F i) (V i) (t := 0) (by omega)
    cases e : (hdl K (F i) ++ [V i])[0]? with
    | none => rw [e] at hs; cases hs
    | some u => rw [e] at this; exact lt_of_cell this
  have hg6 : w6.heap[g]? = y.heap[g]? := kq6.block g (by omega) (fun e => (lo i hi e.1).2.2 e.2.symm)
  have bk : ∀ j, j < n → j ≠ i → 0 < (F j).c → G j < wr.heap.size → w6.heap[G j]? = wr.heap[G j]? := fun j hj hne hc hl => by
    rw [kq6.block (G j) (by omega) (fun e => di j i hj hi hne hc e.1 e.2), hyb _ (lo j hj hc).2.2]
  have hlen : ∀ j, j < n → (if j < i then hml K (k + (sm (mks K F) j : Int)) ++ [V j] else hdl K (F j) ++ [V j]).length = K := fun j _ => by
    split
    · rw [List.length_append, hm_len hK]; simp; omega
    · exact hd_len hK _ _
  refine ⟨⟨kq6.os.trans ((by rw [hy]; exact (setL_os _ _ _ _).1 : y.os = wr.os).trans h.kq.os), kq6.tape.trans ((by rw [hy]; exact setL_tape _ _ _ _ : y.tape = wr.tape).trans h.kq.tape), kq6.output.trans ((by rw [hy]; exact (setL_os _ _ _ _).2 : y.output = wr.output).trans h.kq.output), Nat.le_trans h.kq.size (Nat.le_trans (Nat.le_of_eq hys.symm) kq6.size), fun q hq hs => ?_⟩, ?_, fun j => ?_, fun j h1 h2 => ?_, fun j hj => ?_⟩
  · rw [kq6.block q (by have := h.kq.size; omega) (fun e => hs (e.2 ▸ ⟨(lo i hi e.1).1, (lo i hi e.1).2.1⟩)), hyb q (fun e => hs (e ▸ bg))]
    exact h.kq.block q hq hs
  · refine Cs.block (W := y) ?_ (fun _ => hg6)
    have hc := h.cs.set hi hlen (l := hml K (k + (sm (mks K F) i : Int))) (by rw [hm_len hK]; omega)
    rw [← hy] at hc
    intro j hj t ht
    rw [hc j hj t ht]
    dsimp only
    by_cases e : j = i
    · subst e
      rw [if_pos rfl, if_neg (by omega), if_pos (by omega), hm_len hK]
      congr 2
      rcases hK with rfl | rfl | rfl <;> rfl
    · rw [if_neg e]
      by_cases q : j < i
      · rw [if_pos q, if_pos (by omega)]
      · rw [if_neg q, if_neg (by omega)]
  · rw [World.frozen?_of_block hg6, hy, setL_fz]; exact h.fz j
  · exact (h.ow j (by omega) h2).kb (fun hc => bk j h2 (by omega) (by omega) (lt_of_cell ((h.ow j (by omega) h2).cell 0 (by omega))))
  · by_cases e : j = i
    · subst e; exact md6
    · exact (h.md j (by omega)).kb (fun hc => bk j (by omega) e (by omega) (lt_of_cell ((h.md j (by omega)).cell 0 (by omega))))
end Go.Proofs.Ytbbjbojjglhgmaa.Fo
