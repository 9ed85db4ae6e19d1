import Derived.Deep.RegionHeldLaw
import Derived.Test.YtaggciimacanbaaMSuc
import Derived.Test.YtaggciimacanbaaMGbb
namespace Go.Proofs.Ytaggciimacanbaa.Fo
open Go.ChangeShapes Go.WideShapes Go.ChangeAt Go.RowKit
set_option linter.unusedVariables false
set_option maxRecDepth 100000
/-- bytes, with what may stand ahead of them: whether it is a Sync, which block -/
structure Ed where
  s : Bool
  b : Int
  c : Nat
  A : Nat → Int
instance : Inhabited Ed := ⟨⟨false, 0, 0, fun _ => 0⟩⟩
/-- what stands ahead of the bytes, in rows of elements of K cells -/
def hdl : Nat → Ed → List Value
  | 1, _ => []
  | 2, e => [.int .i64 e.b]
  | 3, e => [.bool e.s, .int .i64 e.b]
  | _, _ => []
def ub (A : Nat → Int) : Nat → Value := fun i => .int .u8 (A i)
/-- an element in its place -/
def ElC (K b : Nat) (W : World) (p : Addr) (e : Ed) : Prop := ∃ v, W.cell? p = (hdl K e ++ [v])[0]? ∧ (∀ t, 0 < t → t < K → W.cell? ⟨p.block, p.off + t, none⟩ = (hdl K e ++ [v])[t]?) ∧ RowB b W v e.c (ub e.A)
theorem hd_len {K : Nat} (hK : K = 1 ∨ K = 2 ∨ K = 3) (e : Ed) (v : Value) : (hdl K e ++ [v]).length = K := by
  rcases hK with rfl | rfl | rfl <;> rfl
theorem keepA {a w : World} {c : Nat} (h : Kb c a w) {b : Addr} {o : Option Value} (hb : c ≤ b.block) (hs : o.isSome = true) (hc : a.cell? b = o) : w.cell? b = o := by
  cases o with
  | none => cases hs
  | some v => exact h.cellA hb hc
theorem hd_some {K : Nat} (hK : K = 1 ∨ K = 2 ∨ K = 3) (e : Ed) (v : Value) {t : Nat} (ht : t < K) : ((hdl K e ++ [v])[t]?).isSome = true := by
  rw [List.getElem?_eq_getElem (by rw [hd_len hK]; exact ht)]; rfl
theorem ElC.keep {K b : Nat} {W W' : World} {p : Addr} {e : Ed} (hK : K = 1 ∨ K = 2 ∨ K = 3) (h : ElC K b W p e) (hb : b ≤ p.block) (k : Kb b W W') : ElC K b W' p e := by
  obtain ⟨v, h1, h2, h3⟩ := h
  exact ⟨v, keepA k hb (hd_some hK e v (by omega)) h1, fun t t0 t1 => keepA k hb (hd_some hK e v t1) (h2 t t0 t1), h3.keep k⟩
theorem ElC.mono {K b c : Nat} {W : World} {p : Addr} {e : Ed} (h : ElC K b W p e) (hc : c ≤ b) : ElC K c W p e := by
  obtain ⟨v, h1, h2, h3⟩ := h
  exact ⟨v, h1, h2, h3.mono hc⟩
/-- a row of elements, none of its blocks before b -/
def RowE (K b : Nat) (W : World) (v : Value) (n : Nat) (F : Nat → Ed) : Prop :=
  ∃ pa cap, v = .slice pa n cap ∧ (0 < n → ∃ a : Addr, pa = some a ∧ n ≤ cap ∧ b ≤ a.block ∧ ∀ i, i < n → ElC K b W (a.add (i * K)) (F i))
theorem RowE.keep {K b : Nat} {W W' : World} {v : Value} {n : Nat} {F : Nat → Ed} (hK : K = 1 ∨ K = 2 ∨ K = 3) (h : RowE K b W v n F) (k : Kb b W W') : RowE K b W' v n F := by
  obtain ⟨pa, cap, h1, h2⟩ := h
  refine ⟨pa, cap, h1, fun hn => ?_⟩
  obtain ⟨a, e1, e2, e0, e3⟩ := h2 hn
  exact ⟨a, e1, e2, e0, fun i hi => (e3 i hi).keep hK (by rw [add_block]; exact e0) k⟩
theorem RowE.mono {K b c : Nat} {W : World} {v : Value} {n : Nat} {F : Nat → Ed} (h : RowE K b W v n F) (hc : c ≤ b) : RowE K c W v n F := by
  obtain ⟨pa, cap, h1, h2⟩ := h
  refine ⟨pa, cap, h1, fun hn => ?_⟩
  obtain ⟨a, e1, e2, e0, e3⟩ := h2 hn
  exact ⟨a, e1, e2, Nat.le_trans hc e0, fun i hi => (e3 i hi).mono hc⟩
/-- the cells of a row -/
def Cs (K : Nat) (W : World) (g n : Nat) (E : Nat → List Value) : Prop := ∀ j, j < n → ∀ t, t < K → W.cell? ⟨g, j * K + t, none⟩ = (E j)[t]?
theorem apart {K i j : Nat} (h : j ≠ i) {t : Nat} (ht : t < K) : j * K + t < i * K ∨ i * K + K ≤ j * K + t := by
  rcases Nat.lt_or_gt_of_ne h with q | q
  · left
    have : (j + 1) * K ≤ i * K := Nat.mul_le_mul_right K q
    rw [Nat.add_mul] at this; omega
  · right
    have : (i + 1) * K ≤ j * K := Nat.mul_le_mul_right K q
    rw [Nat.add_mul] at this; omega
theorem Cs.set {K : Nat} {W : World} {g n i : Nat} {E : Nat → List Value} (h : Cs K W g n E) (hi : i < n) (hE : ∀ j, j < n → (E j).length = K) {l : List Value} (hl : l.length ≤ K) : Cs K (setL W g (i * K) l) g n (fun j => if j = i then l ++ (E i).drop l.length else E j) := by
  intro j hj t ht
  dsimp only
  by_cases e : j = i
  · subst e
    rw [if_pos rfl]
    rcases Nat.lt_or_ge t l.length with q | q
    · rw [List.getElem?_append_left q]
      refine setL_at g l W (j * K) (fun u hu => ?_) t q
      rw [h j hj u (by omega), List.getElem?_eq_getElem (by rw [hE j hj]; omega)]
      exact ⟨_, rfl⟩
    · rw [List.getElem?_append_right q, List.getElem?_drop, show l.length + (t - l.length) = t by omega, setL_far g _ l W (j * K) (by omega)]
      exact h j hj t ht
  · rw [if_neg e, setL_far g _ l W (i * K) (by rcases apart e ht with q | q <;> omega)]
    exact h j hj t ht
theorem Cs.block {K : Nat} {W W' : World} {g n : Nat} {E : Nat → List Value} (h : Cs K W g n E) (hb : 0 < n → W'.heap[g]? = W.heap[g]?) : Cs K W' g n E := fun j hj t ht => (World.cell?_of_block (hb (by omega))).trans (h j hj t ht)
/-- elements in blocks of their own, between L and H -/
structure OwE (K L H : Nat) (W : World) (v : Value) (n : Nat) (F : Nat → Ed) (g : Nat) (V : Nat → Value) (G : Nat → Nat) : Prop where
  sl : ∃ p cap, v = .slice p n cap ∧ (0 < n → p = some ⟨g, 0, none⟩ ∧ n ≤ cap)
  bg : 0 < n → L ≤ g ∧ g < H
  cs : Cs K W g n (fun j => hdl K (F j) ++ [V j])
  fz : 0 < n → ∀ j, W.frozen? ⟨g, j, none⟩ = false
  ow : ∀ i, i < n → OwnR W (V i) (G i) (F i).c (ub (F i).A)
  lo : ∀ i, i < n → 0 < (F i).c → L ≤ G i ∧ G i < H ∧ G i ≠ g
  di : ∀ i j, i < n → j < n → i ≠ j → 0 < (F i).c → 0 < (F j).c → G i ≠ G j
theorem OwE.block {K L H : Nat} {W W' : World} {v : Value} {n : Nat} {F : Nat → Ed} {g : Nat} {V : Nat → Value} {G : Nat → Nat} (h : OwE K L H W v n F g V G) (hb : ∀ q, L ≤ q → q < H → W'.heap[q]? = W.heap[q]?) : OwE K L H W' v n F g V G := by
  refine ⟨h.sl, h.bg, h.cs.block (fun hn => hb g (h.bg hn).1 (h.bg hn).2), fun hn j => (World.frozen?_of_block (hb g (h.bg hn).1 (h.bg hn).2)).trans (h.fz hn j), fun i hi => ?_, h.lo, h.di⟩
  exact (h.ow i hi).kb (fun hc => hb _ (h.lo i hi (by omega)).1 (h.lo i hi (by omega)).2.1)
theorem OwE.wide {K L H L' H' : Nat} {W : World} {v : Value} {n : Nat} {F : Nat → Ed} {g : Nat} {V : Nat → Value} {G : Nat → Nat} (h : OwE K L H W v n F g V G) (hL : L' ≤ L) (hH : H ≤ H') : OwE K L' H' W v n F g V G :=
  ⟨h.sl, fun hn => ⟨Nat.le_trans hL (h.bg hn).1, Nat.lt_of_lt_of_le (h.bg hn).2 hH⟩, h.cs, h.fz, h.ow, fun i hi hc => ⟨Nat.le_trans hL (h.lo i hi hc).1, Nat.lt_of_lt_of_le (h.lo i hi hc).2.1 hH, (h.lo i hi hc).2.2⟩, h.di⟩
/-- such elements can be read -/
theorem OwE.rowE {K L H : Nat} {W : World} {v : Value} {n : Nat} {F : Nat → Ed} {g : Nat} {V : Nat → Value} {G : Nat → Nat} (hK : K = 1 ∨ K = 2 ∨ K = 3) (h : OwE K L H W v n F g V G) : RowE K L W v n F := by
  obtain ⟨p, cap, h1, h2⟩ := h.sl
  refine ⟨p, cap, h1, fun hn => ⟨⟨g, 0, none⟩, (h2 hn).1, (h2 hn).2, (h.bg hn).1, fun i hi => ⟨V i, ?_, fun t t0 t1 => ?_, ?_⟩⟩⟩
  · rw [addr0]
    have := h.cs i hi 0 (by omega)
    simpa using this
  · rw [addr0]
    exact h.cs i hi t t1
  · obtain ⟨p', c', e1, e2⟩ := (h.ow i hi).sl
    refine ⟨p', c', e1, fun hc => ?_⟩
    exact ⟨⟨G i, 0, none⟩, (e2 hc).1, (e2 hc).2, (h.lo i hi hc).1, fun j hj => by rw [addr0]; exact (h.ow i hi).cell j hj⟩
/-- what a marking writes ahead of the bytes -/
def hml : Nat → Int → List Value
  | 1, _ => []
  | 2, k => [.int .i64 k]
  | 3, k => [.bool (k % 3 == 0), .int .i64 (k + 1)]
  | _, _ => []
theorem hm_len {K : Nat} (hK : K = 1 ∨ K = 2 ∨ K = 3) (k : Int) : (hml K k).length = K - 1 := by
  rcases hK with rfl | rfl | rfl <;> rfl
/-- how many marks an element takes -/
def mks (K : Nat) (F : Nat → Ed) : Nat → Nat := fun i => K - 1 + (F i).c
theorem setL_tape (g : Nat) : ∀ (l : List Value) (W : World) (o : Nat), (setL W g o l).tape = W.tape
  | [], _, _ => rfl
  | v :: r, W, o => by unfold setL; exact setL_tape g r _ _
/-- such elements, marked from k on -/
structure MdE (K L H : Nat) (W : World) (v : Value) (n : Nat) (F : Nat → Ed) (g : Nat) (V : Nat → Value) (G : Nat → Nat) (k : Int) : Prop where
  sl : ∃ p cap, v = .slice p n cap ∧ (0 < n → p = some ⟨g, 0, none⟩ ∧ n ≤ cap)
  bg : 0 < n → L ≤ g ∧ g < H
  cs : Cs K W g n (fun j => hml K (k + (sm (mks K F) j : Int)) ++ [V j])
  md : ∀ i, i < n → OwnR W (V i) (G i) (F i).c (fun j => .int .u8 ((k + (sm (mks K F) i : Int) + ((K - 1 : Nat) : Int) + (j : Int)) % 256))
  lo : ∀ i, i < n → 0 < (F i).c → L ≤ G i ∧ G i < H
theorem MdE.block {K L H : Nat} {W W' : World} {v : Value} {n : Nat} {F : Nat → Ed} {g : Nat} {V : Nat → Value} {G : Nat → Nat} {k : Int} (h : MdE K L H W v n F g V G k) (hb : ∀ q, L ≤ q → q < H → W'.heap[q]? = W.heap[q]?) : MdE K L H W' v n F g V G k := by
  refine ⟨h.sl, h.bg, h.cs.block (fun hn => hb g (h.bg hn).1 (h.bg hn).2), fun i hi => ?_, h.lo⟩
  exact (h.md i hi).kb (fun hc => hb _ (h.lo i hi (by omega)).1 (h.lo i hi (by omega)).2)
/-- a marking under way: i elements are marked -/
structure GE (K L H : Nat) (W : World) (n : Nat) (F : Nat → Ed) (g : Nat) (V : Nat → Value) (G : Nat → Nat) (k : Int) (i : Nat) (wr : World) : Prop where
  kq : Kq (fun q => L ≤ q ∧ q < H) W wr
  cs : Cs K wr g n (fun j => if j < i then hml K (k + (sm (mks K F) j : Int)) ++ [V j] else hdl K (F j) ++ [V j])
  fz : ∀ j, wr.frozen? ⟨g, j, none⟩ = false
  ow : ∀ j, i ≤ j → j < n → OwnR wr (V j) (G j) (F j).c (ub (F j).A)
  md : ∀ j, j < i → OwnR wr (V j) (G j) (F j).c (fun t => .int .u8 ((k + (sm (mks K F) j : Int) + ((K - 1 : Nat) : Int) + (t : Int)) % 256))
theorem GE.step {K L H : Nat} {W : World} {n : Nat} {F : Nat → Ed} {g : Nat} {V : Nat → Value} {G : Nat → Nat} {k : Int} {i : Nat} {wr w6 : World} (hK : K = 1 ∨ K = 2 ∨ K = 3) (h : GE K L H W n F g V G k i wr) (hi : i < n) (bg : L ≤ g ∧ g < H) (lo : ∀ i, i < n → 0 < (F i).c → L ≤ G i ∧ G i < H ∧ G i ≠ g) (di : ∀ i j, i < n → j < n → i ≠ j → 0 < (F i).c → 0 < (F j).c → G i ≠ G j)
    (kq6 : Kq (fun q => 0 < (F i).c ∧ q = G i) (setL wr g (i * K) (hml K (k + (sm (mks K F) i : Int)))) w6) (md6 : OwnR w6 (V i) (G i) (F i).c (fun t => .int .u8 ((k + (sm (mks K F) i : Int) + ((K - 1 : Nat) : Int) + (t : Int)) % 256))) : GE K L H W n F g V G k (i + 1) w6 := by
  obtain ⟨y, hy⟩ : ∃ y, y = setL wr g (i * K) (hml K (k + (sm (mks K F) i : Int))) := ⟨_, rfl⟩
  rw [← hy] at kq6
  have hys : y.heap.size = wr.heap.size := by rw [hy]; exact setL_size _ _ _ _
  have hyb : ∀ q, q ≠ g → y.heap[q]? = wr.heap[q]? := fun q hq => by rw [hy]; exact setL_block _ _ hq _ _ _
  have hgl : g < wr.heap.size := by
    have := h.cs i hi 0 (by omega)
    dsimp only at this
    rw [if_neg (by omega)] at this
    have hs := hd_some hK (F i) (V i) (t := 0) (by omega)
    cases e : (hdl K (F i) ++ [V i])[0]? with
    | none => rw [e] at hs; cases hs
    | some u => rw [e] at this; exact lt_of_cell this
  have hg6 : w6.heap[g]? = y.heap[g]? := kq6.block g (by omega) (fun e => (lo i hi e.1).2.2 e.2.symm)
  have bk : ∀ j, j < n → j ≠ i → 0 < (F j).c → G j < wr.heap.size → w6.heap[G j]? = wr.heap[G j]? := fun j hj hne hc hl => by
    rw [kq6.block (G j) (by omega) (fun e => di j i hj hi hne hc e.1 e.2), hyb _ (lo j hj hc).2.2]
  have hlen : ∀ j, j < n → (if j < i then hml K (k + (sm (mks K F) j : Int)) ++ [V j] else hdl K (F j) ++ [V j]).length = K := fun j _ => by
    split
    · rw [List.length_append, hm_len hK]; simp; omega
    · exact hd_len hK _ _
  refine ⟨⟨kq6.os.trans ((by rw [hy]; exact (setL_os _ _ _ _).1 : y.os = wr.os).trans h.kq.os), kq6.tape.trans ((by rw [hy]; exact setL_tape _ _ _ _ : y.tape = wr.tape).trans h.kq.tape), kq6.output.trans ((by rw [hy]; exact (setL_os _ _ _ _).2 : y.output = wr.output).trans h.kq.output), Nat.le_trans h.kq.size (Nat.le_trans (Nat.le_of_eq hys.symm) kq6.size), fun q hq hs => ?_⟩, ?_, fun j => ?_, fun j h1 h2 => ?_, fun j hj => ?_⟩
  · rw [kq6.block q (by have := h.kq.size; omega) (fun e => hs (e.2 ▸ ⟨(lo i hi e.1).1, (lo i hi e.1).2.1⟩)), hyb q (fun e => hs (e ▸ bg))]
    exact h.kq.block q hq hs
  · refine Cs.block (W := y) ?_ (fun _ => hg6)
    have hc := h.cs.set hi hlen (l := hml K (k + (sm (mks K F) i : Int))) (by rw [hm_len hK]; omega)
    rw [← hy] at hc
    intro j hj t ht
    rw [hc j hj t ht]
    dsimp only
    by_cases e : j = i
    · subst e
      rw [if_pos rfl, if_neg (by omega), if_pos (by omega), hm_len hK]
      congr 2
      rcases hK with rfl | rfl | rfl <;> rfl
    · rw [if_neg e]
      by_cases q : j < i
      · rw [if_pos q, if_pos (by omega)]
      · rw [if_neg q, if_neg (by omega)]
  · rw [World.frozen?_of_block hg6, hy, setL_fz]; exact h.fz j
  · exact (h.ow j (by omega) h2).kb (fun hc => bk j h2 (by omega) (by omega) (lt_of_cell ((h.ow j (by omega) h2).cell 0 (by omega))))
  · by_cases e : j = i
    · subst e; exact md6
    · exact (h.md j (by omega)).kb (fun hc => bk j (by omega) e (by omega) (lt_of_cell ((h.md j (by omega)).cell 0 (by omega))))
end Go.Proofs.Ytaggciimacanbaa.Fo

namespace Go.Proofs.Ytaggciimacanbaa.Fo
open Go.ChangeShapes Go.WideShapes Go.ChangeAt Go.RowKit
set_option linter.unusedVariables false
set_option maxRecDepth 100000
set_option maxHeartbeats 4000000 in
theorem sz_byts {va : Value} {n : Nat} {A : Nat → Value} (w : World) (l : Int) (ha : RowB 0 w va n A) (hn : (n : Int) < 140737488355328) (hl0 : 0 ≤ l) (hl : l ≤ 1048576) :
    Calls Try.prog 78 #[va, .int .i64 l] w (Szd n l w) := by
  obtain ⟨pa, ca, rfl, -⟩ := ha
  go_enter Try.func78, Try.ntmps78
  rcases Int.lt_or_le (l - n) 0 with h | h
  · go_wp2_with fail
    go_ret
    exact ⟨-1, rfl, by omega, by omega, by omega, Kb.refl _ _⟩
  · have h' : ¬ (l - n < 0) := by omega
    go_wp2_with fail
    go_ret
    exact ⟨_, rfl, by omega, by omega, by omega, Kb.refl _ _⟩
theorem eq_bytsK {va vb : Value} {n : Nat} {A : Nat → Int} (w : World) (ha : RowB 0 w va n (ub A)) (hb : RowB 0 w vb n (ub A)) (hn : n ≤ 1048576) :
    Calls Try.prog 15 #[va, vb] w fun e w' => e = .returned (.bool true) ∧ Kb 0 w w' := (eq_byts w ha.row hb.row hn).mono (fun e w' ⟨h1, h2⟩ => ⟨h1, kb_drewN h2⟩)
set_option maxHeartbeats 4000000 in
theorem sz_row1 {va : Value} {n : Nat} {F : Nat → Ed} (w : World) (l : Int) (ha : RowE 1 0 w va n F) (hn : (n : Int) < 140737488355328) (hF : ∀ i, i < n → ((F i).c : Int) < 140737488355328) (hl0 : 0 ≤ l) (hl : l ≤ 1048576) :
    Calls Try.prog 41 #[va, .int .i64 l] w (Szd (n + sm (fun i => (F i).c) n) l w) := by
  obtain ⟨pa, ca, rfl, ha2⟩ := ha
  have HA : Hid ((0 < n → ∃ a : Addr, pa = some a ∧ n ≤ ca ∧ 0 ≤ a.block ∧ ∀ i, i < n → ElC 1 0 w (a.add (i * 1)) (F i)) ∧ ∀ i, i < n → ((F i).c : Int) < 140737488355328) := (⟨ha2, hF⟩ : _ ∧ _)
  clear ha2 hF
  go_enter Try.func41, Try.ntmps41
  rcases Int.lt_or_le (l - n) 0 with h | h
  · clear HA
    go_wp2_with fail
    go_ret
    exact ⟨-1, rfl, fun f => by omega, by omega, by omega, Kb.refl _ _⟩
  · have h' : ¬ (l - n < 0) := by omega
    go_wp2_with fail
    go_loopw [1, 5] (fun s1 s5 wr => ∃ (i : Nat) (x : Int), s1 = .int .i64 x ∧ s5 = .int .i64 (i : Int) ∧ i ≤ n ∧ 0 ≤ x ∧ x ≤ l ∧ Hid (x + (n : Int) + (sm (fun i => (F i).c) i : Int) ≤ l ∧ Kb 0 w wr)) (fun _ s5 _ => n - (intOf s5).toNat)
    case atStart => exact ⟨0, l - n, rfl, rfl, Nat.zero_le _, by omega, by omega, (⟨by show l - n + n + ((0 : Nat) : Int) ≤ l; omega, Kb.refl _ _⟩ : _ ∧ _)⟩
    case round =>
      obtain ⟨i, x, rfl, rfl, hin, hx0, hx1, HX⟩ := hrel
      rcases Nat.lt_or_ge i n with hi | hi
      · have hA := (show (0 < n → ∃ a : Addr, pa = some a ∧ n ≤ ca ∧ 0 ≤ a.block ∧ ∀ i, i < n → ElC 1 0 w (a.add (i * 1)) (F i)) ∧ ∀ i, i < n → ((F i).c : Int) < 140737488355328 from HA)
        have hX := (show x + (n : Int) + (sm (fun i => (F i).c) i : Int) ≤ l ∧ Kb 0 w wr from HX)
        obtain ⟨a, rfl, hca, -, hra⟩ := hA.1 (by omega)
        obtain ⟨v, h0, ht, hr⟩ := (hra i hi).keep (.inl rfl) (Nat.zero_le _) hX.2
        have hX3 := hA.2 i hi
        obtain ⟨p0, c0, rfl, -⟩ := id hr
        have HS : Hid (Calls Try.prog 78 #[.slice p0 (F i).c c0, .int .i64 x] wr (Szd (F i).c x wr)) := sz_byts wr x hr hX3 hx0 (by omega)
        have d0 : wr.cell? (a.add i) = some (.slice p0 (F i).c c0) := by have := h0; rw [Nat.mul_one] at this; exact this
        have hiI : (i : Int) < (n : Int) := by omega
        clear hA hX hra HA hin h0 ht hr hX3
        go_wp2_with fail
        refine (show Calls Try.prog 78 #[.slice p0 (F i).c c0, .int .i64 x] wr (Szd (F i).c x wr) from HS).mono ?_
        rintro e w6 ⟨r, rfl, hs, hm1, hr1, hb6⟩
        have hX := (show x + (n : Int) + (sm (fun i => (F i).c) i : Int) ≤ l ∧ Kb 0 w wr from HX)
        have HB6 : Hid ((0 ≤ r → r + (n : Int) + (sm (fun i => (F i).c) (i + 1) : Int) ≤ l) ∧ Kb 0 w w6) := (⟨fun h => by
          have := hs h
          have := hX.1
          show r + (n : Int) + ((sm (fun i => (F i).c) i + (F i).c : Nat) : Int) ≤ l
          omega, hX.2.trans hb6⟩ : _ ∧ _)
        clear HS HX hX hb6 hs d0
        rcases Int.lt_or_le r 0 with hr0 | hr0
        · go_wp2_with fail
          go_ret
          exact ⟨-1, rfl, fun f => by omega, by omega, by omega, HB6.2⟩
        · have hr0' : ¬ (r < 0) := by omega
          have hr2 : r ≤ l := by omega
          have hnI : (n : Int) ≤ 1048576 := by omega
          clear hn h h' hm1 hx0 hx1 hr1
          go_wp2_with fail
          go_roundw
          case rel => exact ⟨i + 1, r, rfl, by go_num, by omega, hr0, hr2, (⟨HB6.1 hr0, HB6.2⟩ : _ ∧ _)⟩
          case measure => simp [intOf]; omega
      · obtain rfl : i = n := by omega
        clear HA
        go_wp2_with fail
        go_ret
        have hX := (show x + (i : Int) + (sm (fun i => (F i).c) i : Int) ≤ l ∧ Kb 0 w wr from HX)
        exact ⟨x, rfl, fun _ => by have := hX.1; omega, by omega, hx1, hX.2⟩
set_option maxHeartbeats 4000000 in
theorem sz_el2 {f : Ed} {vc : Value} {z : Nat} (w : World) (l : Int) (g0 : ∀ W (l : Int), Kb 0 w W → 0 ≤ l → l ≤ 1048576 → Calls Try.prog 78 #[vc, .int .i64 l] W (Szd z l W)) (hl0 : 0 ≤ l) (hl : l ≤ 1048576) :
    Calls Try.prog 79 #[.agg #[.int .i64 f.b, vc], .int .i64 l] w (Szd z l w) := by
  have G0 : Hid (∀ W (l : Int), Kb 0 w W → 0 ≤ l → l ≤ 1048576 → Calls Try.prog 78 #[vc, .int .i64 l] W (Szd z l W)) := g0
  clear g0
  go_enter Try.func79, Try.ntmps79
  go_wp2_with fail
  refine ((show ∀ W (l : Int), Kb 0 w W → 0 ≤ l → l ≤ 1048576 → Calls Try.prog 78 #[vc, .int .i64 l] W (Szd z l W) from G0) _ l (kb_alloc _ _ _) hl0 hl).mono ?_
  rintro e w1 ⟨r, rfl, s1, m1, t1, k1⟩
  have HK : Hid (Kb 0 w w1) := (kb_alloc _ _ _).trans k1
  clear k1 G0
  rcases Int.lt_or_le r 0 with c | c
  · go_wp2_with fail
    go_ret
    exact ⟨-1, rfl, fun h => by omega, by omega, by omega, HK⟩
  · have c' : ¬ r < 0 := by omega
    go_wp2_with fail
    go_ret
    exact ⟨r, rfl, s1, by omega, t1, HK⟩
set_option maxHeartbeats 4000000 in
theorem sz_row2 {va : Value} {n : Nat} {F : Nat → Ed} (w : World) (l : Int) (ha : RowE 2 0 w va n F) (hn : (n : Int) < 140737488355328) (hF : ∀ i, i < n → ((F i).c : Int) < 140737488355328) (hl0 : 0 ≤ l) (hl : l ≤ 1048576) :
    Calls Try.prog 42 #[va, .int .i64 l] w (Szd (n + sm (fun i => (F i).c) n) l w) := by
  obtain ⟨pa, ca, rfl, ha2⟩ := ha
  have HA : Hid ((0 < n → ∃ a : Addr, pa = some a ∧ n ≤ ca ∧ 0 ≤ a.block ∧ ∀ i, i < n → ElC 2 0 w (a.add (i * 2)) (F i)) ∧ ∀ i, i < n → ((F i).c : Int) < 140737488355328) := (⟨ha2, hF⟩ : _ ∧ _)
  clear ha2 hF
  go_enter Try.func42, Try.ntmps42
  rcases Int.lt_or_le (l - n) 0 with h | h
  · clear HA
    go_wp2_with fail
    go_ret
    exact ⟨-1, rfl, fun f => by omega, by omega, by omega, Kb.refl _ _⟩
  · have h' : ¬ (l - n < 0) := by omega
    go_wp2_with fail
    go_loopw [1, 5] (fun s1 s5 wr => ∃ (i : Nat) (x : Int), s1 = .int .i64 x ∧ s5 = .int .i64 (i : Int) ∧ i ≤ n ∧ 0 ≤ x ∧ x ≤ l ∧ Hid (x + (n : Int) + (sm (fun i => (F i).c) i : Int) ≤ l ∧ Kb 0 w wr)) (fun _ s5 _ => n - (intOf s5).toNat)
    case atStart => exact ⟨0, l - n, rfl, rfl, Nat.zero_le _, by omega, by omega, (⟨by show l - n + n + ((0 : Nat) : Int) ≤ l; omega, Kb.refl _ _⟩ : _ ∧ _)⟩
    case round =>
      obtain ⟨i, x, rfl, rfl, hin, hx0, hx1, HX⟩ := hrel
      rcases Nat.lt_or_ge i n with hi | hi
      · have hA := (show (0 < n → ∃ a : Addr, pa = some a ∧ n ≤ ca ∧ 0 ≤ a.block ∧ ∀ i, i < n → ElC 2 0 w (a.add (i * 2)) (F i)) ∧ ∀ i, i < n → ((F i).c : Int) < 140737488355328 from HA)
        have hX := (show x + (n : Int) + (sm (fun i => (F i).c) i : Int) ≤ l ∧ Kb 0 w wr from HX)
        obtain ⟨a, rfl, hca, -, hra⟩ := hA.1 (by omega)
        obtain ⟨v, h0, ht, hr⟩ := (hra i hi).keep (.inr (.inl rfl)) (Nat.zero_le _) hX.2
        have hX3 := hA.2 i hi
        obtain ⟨p0, c0, rfl, -⟩ := id hr
        have HS : Hid (Calls Try.prog 79 #[.agg #[.int .i64 (F i).b, .slice p0 (F i).c c0], .int .i64 x] wr (Szd (F i).c x wr)) := sz_el2 wr x (fun W l k q0 q1 => sz_byts W l (hr.keep k) hX3 q0 q1) hx0 (by omega)
        have d0 : wr.cell? (a.add (i * 2)) = some (.int .i64 (F i).b) := h0
        have d1 : wr.cell? ⟨(a.add (i * 2)).block, (a.add (i * 2)).off + 1, none⟩ = some (.slice p0 (F i).c c0) := ht 1 (by omega) (by omega)
        have hiI : (i : Int) < (n : Int) := by omega
        clear hA hX hra HA hin h0 ht hr hX3
        go_wp2_with fail
        refine (show Calls Try.prog 79 #[.agg #[.int .i64 (F i).b, .slice p0 (F i).c c0], .int .i64 x] wr (Szd (F i).c x wr) from HS).mono ?_
        rintro e w6 ⟨r, rfl, hs, hm1, hr1, hb6⟩
        have hX := (show x + (n : Int) + (sm (fun i => (F i).c) i : Int) ≤ l ∧ Kb 0 w wr from HX)
        have HB6 : Hid ((0 ≤ r → r + (n : Int) + (sm (fun i => (F i).c) (i + 1) : Int) ≤ l) ∧ Kb 0 w w6) := (⟨fun h => by
          have := hs h
          have := hX.1
          show r + (n : Int) + ((sm (fun i => (F i).c) i + (F i).c : Nat) : Int) ≤ l
          omega, hX.2.trans hb6⟩ : _ ∧ _)
        clear HS HX hX hb6 hs d0 d1
        rcases Int.lt_or_le r 0 with hr0 | hr0
        · go_wp2_with fail
          go_ret
          exact ⟨-1, rfl, fun f => by omega, by omega, by omega, HB6.2⟩
        · have hr0' : ¬ (r < 0) := by omega
          have hr2 : r ≤ l := by omega
          have hnI : (n : Int) ≤ 1048576 := by omega
          clear hn h h' hm1 hx0 hx1 hr1
          go_wp2_with fail
          go_roundw
          case rel => exact ⟨i + 1, r, rfl, by go_num, by omega, hr0, hr2, (⟨HB6.1 hr0, HB6.2⟩ : _ ∧ _)⟩
          case measure => simp [intOf]; omega
      · obtain rfl : i = n := by omega
        clear HA
        go_wp2_with fail
        go_ret
        have hX := (show x + (i : Int) + (sm (fun i => (F i).c) i : Int) ≤ l ∧ Kb 0 w wr from HX)
        exact ⟨x, rfl, fun _ => by have := hX.1; omega, by omega, hx1, hX.2⟩
end Go.Proofs.Ytaggciimacanbaa.Fo

namespace Go.Proofs.Ytaggciimacanbaa.Fo
open Go.ChangeShapes Go.WideShapes Go.ChangeAt Go.RowKit
set_option linter.unusedVariables false
set_option maxRecDepth 100000
set_option maxHeartbeats 8000000 in
theorem eq_row1 {va vb : Value} {n : Nat} {F : Nat → Ed} (w : World) (ha : RowE 1 0 w va n F) (hb : RowE 1 0 w vb n F) (hn : n ≤ 1048576) (hF : ∀ i, i < n → (F i).c ≤ 1048576) :
    Calls Try.prog 50 #[va, vb] w fun e w' => e = .returned (.bool true) ∧ Kb 0 w w' := by
  obtain ⟨pa, ca, rfl, ha2⟩ := ha
  obtain ⟨pb, cb, rfl, hb2⟩ := hb
  have HA : Hid ((0 < n → ∃ a : Addr, pa = some a ∧ n ≤ ca ∧ 0 ≤ a.block ∧ ∀ i, i < n → ElC 1 0 w (a.add (i * 1)) (F i)) ∧ (0 < n → ∃ a : Addr, pb = some a ∧ n ≤ cb ∧ 0 ≤ a.block ∧ ∀ i, i < n → ElC 1 0 w (a.add (i * 1)) (F i)) ∧ (∀ i, i < n → (F i).c ≤ 1048576)) := (⟨ha2, hb2, hF⟩ : _ ∧ _)
  have hnI : (n : Int) ≤ 1048576 := by omega
  clear ha2 hb2 hn hF
  go_enter Try.func50, Try.ntmps50
  go_wp2_with fail
  go_loopw [5] (fun s5 wr => ∃ i : Nat, s5 = .int .i64 (i : Int) ∧ i ≤ n ∧ Hid (Kb 0 w wr)) (fun s5 _ => n - (intOf s5).toNat)
  case atStart => exact ⟨0, rfl, Nat.zero_le _, Kb.refl _ _⟩
  case round =>
    obtain ⟨i, rfl, hin, HB⟩ := hrel
    rcases Nat.lt_or_ge i n with hi | hi
    · have hA := (show (0 < n → ∃ a : Addr, pa = some a ∧ n ≤ ca ∧ 0 ≤ a.block ∧ ∀ i, i < n → ElC 1 0 w (a.add (i * 1)) (F i)) ∧ (0 < n → ∃ a : Addr, pb = some a ∧ n ≤ cb ∧ 0 ≤ a.block ∧ ∀ i, i < n → ElC 1 0 w (a.add (i * 1)) (F i)) ∧ (∀ i, i < n → (F i).c ≤ 1048576) from HA)
      obtain ⟨qa, rfl, hca, -, hra⟩ := hA.1 (by omega)
      obtain ⟨qb, rfl, hcb, -, hrb⟩ := hA.2.1 (by omega)
      have hiI : (i : Int) < (n : Int) := by omega
      obtain ⟨vc, x0, xt, h1⟩ := (hra i hi).keep (.inl rfl) (Nat.zero_le _) (show Kb 0 w wr from HB)
      obtain ⟨uc, z0, zt, h2⟩ := (hrb i hi).keep (.inl rfl) (Nat.zero_le _) (show Kb 0 w wr from HB)
      have y1 := hA.2.2 i hi
      obtain ⟨p0, c0, rfl, -⟩ := id h1
      obtain ⟨p1, c1, rfl, -⟩ := id h2
      have heq0 : ∀ W', Kb 0 wr W' → Calls Try.prog 15 #[.slice p0 (F i).c c0, .slice p1 (F i).c c1] W' fun e w' => e = .returned (.bool true) ∧ Kb 0 W' w' := fun W' k => eq_bytsK W' (h1.keep k) (h2.keep k) y1
      have heq : ∀ W', W'.heap = wr.heap → W'.os = wr.os → W'.output = wr.output → Calls Try.prog 15 #[.slice p0 (F i).c c0, .slice p1 (F i).c c1] W' fun e w' => e = .returned (.bool true) ∧ Kb 0 wr w' := fun W' h0 h1 h2 => by
        have kk : Kb 0 wr W' := ⟨h1, h2, by rw [h0]; exact Nat.le_refl _, fun k _ _ => by rw [h0]⟩
        refine (heq0 W' kk).mono ?_
        rintro e w' ⟨rfl, k⟩
        exact ⟨rfl, kk.trans k⟩
      have a0 : wr.cell? (qa.add i) = some (.slice p0 (F i).c c0) := by have := x0; rw [Nat.mul_one] at this; exact this
      have b0 : wr.cell? (qb.add i) = some (.slice p1 (F i).c c1) := by have := z0; rw [Nat.mul_one] at this; exact this
      clear hra hrb hA HA h1 h2 y1 x0 xt z0 zt heq0
      generalize (F i).c = fc at *
      have HKEEP : Hid (∀ (W' : World), Kb 0 wr W' → W'.cell? (qa.add i) = some (.slice p0 fc c0) ∧ W'.cell? (qb.add i) = some (.slice p1 fc c1)) := by
        show ∀ (W' : World), _
        intro W' k
        exact ⟨k.cell a0, k.cell b0⟩
      have HEQ : Hid (∀ W', W'.heap = wr.heap → W'.os = wr.os → W'.output = wr.output → Calls Try.prog 15 #[.slice p0 fc c0, .slice p1 fc c1] W' fun e w' => e = .returned (.bool true) ∧ Kb 0 wr w') := heq
      clear hin heq
      go_wp2_with fail
      go_region_held_law (fun W' => W'.cell? (qa.add i) = some (.slice p0 fc c0) ∧ W'.cell? (qb.add i) = some (.slice p1 fc c1)) (first | exact ⟨a0, b0⟩ | exact (show ∀ (W' : World), _ from HKEEP) _ k5)
        ((go_at_call 15; refine ((show ∀ W', W'.heap = wr.heap → W'.os = wr.os → W'.output = wr.output → Calls Try.prog 15 #[.slice p0 fc c0, .slice p1 fc c1] W' fun e w' => e = .returned (.bool true) ∧ Kb 0 wr w' from HEQ) _ (by exact rfl) (by exact rfl) (by exact rfl)).mono ?_; rintro e w5 ⟨rfl, k5⟩))
      all_goals
        have HB5 : Hid (Kb 0 w w5) := (show Kb 0 w wr from HB).trans k5
        clear HB HKEEP HEQ k5 a0 b0
        go_wp2_with fail
        go_roundw
        case rel => exact ⟨i + 1, by go_num, by omega, HB5⟩
        case measure => simp [intOf]; omega
    · obtain rfl : i = n := by omega
      clear HA
      go_wp2_with fail
      go_ret
      exact ⟨rfl, HB⟩
set_option maxHeartbeats 8000000 in
theorem eq_el2 {f : Ed} {vc uc : Value} (w : World)
    (g0 : ∀ W', Kb 0 w W' → Calls Try.prog 15 #[vc, uc] W' fun e w' => e = .returned (.bool true) ∧ Kb 0 W' w') :
    Calls Try.prog 85 #[.agg #[.int .i64 f.b, vc], .agg #[.int .i64 f.b, uc]] w fun e w' => e = .returned (.bool true) ∧ Kb 0 w w' := by
  have G0 : Hid (∀ W', Kb 0 w W' → Calls Try.prog 15 #[vc, uc] W' fun e w' => e = .returned (.bool true) ∧ Kb 0 W' w') := g0
  clear g0
  generalize f.b = t at *
  have e1 : (t != t) = false := by simp
  obtain ⟨w2, hw2⟩ : ∃ w2, w2 = (w.alloc (.cells #[.int .i64 t, vc] 71)).alloc (.cells #[.int .i64 t, uc] 71) := ⟨_, rfl⟩
  have k2 : Kb 0 w w2 := by rw [hw2]; exact kb_alloc2 _ _ _ _
  have HK : Hid (Kb 0 w w2) := k2
  have HW : Hid (w2 = (w.alloc (.cells #[.int .i64 t, vc] 71)).alloc (.cells #[.int .i64 t, uc] 71)) := hw2
  clear hw2 k2
  go_enter Try.func85, Try.ntmps85
  go_wp2_with fail
  rw [← (show w2 = _ from HW)]
  clear HW
  refine ((show ∀ W', Kb 0 w W' → Calls Try.prog 15 #[vc, uc] W' fun e w' => e = .returned (.bool true) ∧ Kb 0 W' w' from G0) w2 HK).mono ?_
  rintro e x0 ⟨rfl, k0⟩
  have HL : Hid (Kb 0 w x0) := (show Kb 0 w w2 from HK).trans k0
  clear HK k0 G0
  go_wp2_with fail
  go_ret
  exact ⟨rfl, HL⟩
set_option maxHeartbeats 8000000 in
theorem eq_row2 {va vb : Value} {n : Nat} {F : Nat → Ed} (w : World) (ha : RowE 2 0 w va n F) (hb : RowE 2 0 w vb n F) (hn : n ≤ 1048576) (hF : ∀ i, i < n → (F i).c ≤ 1048576) :
    Calls Try.prog 51 #[va, vb] w fun e w' => e = .returned (.bool true) ∧ Kb 0 w w' := by
  obtain ⟨pa, ca, rfl, ha2⟩ := ha
  obtain ⟨pb, cb, rfl, hb2⟩ := hb
  have HA : Hid ((0 < n → ∃ a : Addr, pa = some a ∧ n ≤ ca ∧ 0 ≤ a.block ∧ ∀ i, i < n → ElC 2 0 w (a.add (i * 2)) (F i)) ∧ (0 < n → ∃ a : Addr, pb = some a ∧ n ≤ cb ∧ 0 ≤ a.block ∧ ∀ i, i < n → ElC 2 0 w (a.add (i * 2)) (F i)) ∧ (∀ i, i < n → (F i).c ≤ 1048576)) := (⟨ha2, hb2, hF⟩ : _ ∧ _)
  have hnI : (n : Int) ≤ 1048576 := by omega
  clear ha2 hb2 hn hF
  go_enter Try.func51, Try.ntmps51
  go_wp2_with fail
  go_loopw [5] (fun s5 wr => ∃ i : Nat, s5 = .int .i64 (i : Int) ∧ i ≤ n ∧ Hid (Kb 0 w wr)) (fun s5 _ => n - (intOf s5).toNat)
  case atStart => exact ⟨0, rfl, Nat.zero_le _, Kb.refl _ _⟩
  case round =>
    obtain ⟨i, rfl, hin, HB⟩ := hrel
    rcases Nat.lt_or_ge i n with hi | hi
    · have hA := (show (0 < n → ∃ a : Addr, pa = some a ∧ n ≤ ca ∧ 0 ≤ a.block ∧ ∀ i, i < n → ElC 2 0 w (a.add (i * 2)) (F i)) ∧ (0 < n → ∃ a : Addr, pb = some a ∧ n ≤ cb ∧ 0 ≤ a.block ∧ ∀ i, i < n → ElC 2 0 w (a.add (i * 2)) (F i)) ∧ (∀ i, i < n → (F i).c ≤ 1048576) from HA)
      obtain ⟨qa, rfl, hca, -, hra⟩ := hA.1 (by omega)
      obtain ⟨qb, rfl, hcb, -, hrb⟩ := hA.2.1 (by omega)
      have hiI : (i : Int) < (n : Int) := by omega
      obtain ⟨vc, x0, xt, h1⟩ := (hra i hi).keep (.inr (.inl rfl)) (Nat.zero_le _) (show Kb 0 w wr from HB)
      obtain ⟨uc, z0, zt, h2⟩ := (hrb i hi).keep (.inr (.inl rfl)) (Nat.zero_le _) (show Kb 0 w wr from HB)
      have y1 := hA.2.2 i hi
      obtain ⟨p0, c0, rfl, -⟩ := id h1
      obtain ⟨p1, c1, rfl, -⟩ := id h2
      have heq0 : ∀ W', Kb 0 wr W' → Calls Try.prog 85 #[.agg #[.int .i64 (F i).b, .slice p0 (F i).c c0], .agg #[.int .i64 (F i).b, .slice p1 (F i).c c1]] W' fun e w' => e = .returned (.bool true) ∧ Kb 0 W' w' := fun W' k => eq_el2 W' (fun W k2 => eq_bytsK W (h1.keep (k.trans k2)) (h2.keep (k.trans k2)) y1)
      have heq : ∀ W', W'.heap = wr.heap → W'.os = wr.os → W'.output = wr.output → Calls Try.prog 85 #[.agg #[.int .i64 (F i).b, .slice p0 (F i).c c0], .agg #[.int .i64 (F i).b, .slice p1 (F i).c c1]] W' fun e w' => e = .returned (.bool true) ∧ Kb 0 wr w' := fun W' h0 h1 h2 => by
        have kk : Kb 0 wr W' := ⟨h1, h2, by rw [h0]; exact Nat.le_refl _, fun k _ _ => by rw [h0]⟩
        refine (heq0 W' kk).mono ?_
        rintro e w' ⟨rfl, k⟩
        exact ⟨rfl, kk.trans k⟩
      have a0 : wr.cell? (qa.add (i * 2)) = some (.int .i64 (F i).b) := x0
      have a1 : wr.cell? ⟨(qa.add (i * 2)).block, (qa.add (i * 2)).off + 1, none⟩ = some (.slice p0 (F i).c c0) := xt 1 (by omega) (by omega)
      have b0 : wr.cell? (qb.add (i * 2)) = some (.int .i64 (F i).b) := z0
      have b1 : wr.cell? ⟨(qb.add (i * 2)).block, (qb.add (i * 2)).off + 1, none⟩ = some (.slice p1 (F i).c c1) := zt 1 (by omega) (by omega)
      clear hra hrb hA HA h1 h2 y1 x0 xt z0 zt heq0
      generalize (F i).c = fc at *
      generalize (F i).b = fb at *
      have HKEEP : Hid (∀ (W' : World), Kb 0 wr W' → W'.cell? (qa.add (i * 2)) = some (.int .i64 fb) ∧ W'.cell? ⟨(qa.add (i * 2)).block, (qa.add (i * 2)).off + 1, none⟩ = some (.slice p0 fc c0) ∧ W'.cell? (qb.add (i * 2)) = some (.int .i64 fb) ∧ W'.cell? ⟨(qb.add (i * 2)).block, (qb.add (i * 2)).off + 1, none⟩ = some (.slice p1 fc c1)) := by
        show ∀ (W' : World), _
        intro W' k
        exact ⟨k.cell a0, k.cell a1, k.cell b0, k.cell b1⟩
      have HEQ : Hid (∀ W', W'.heap = wr.heap → W'.os = wr.os → W'.output = wr.output → Calls Try.prog 85 #[.agg #[.int .i64 fb, .slice p0 fc c0], .agg #[.int .i64 fb, .slice p1 fc c1]] W' fun e w' => e = .returned (.bool true) ∧ Kb 0 wr w') := heq
      clear hin heq
      go_wp2_with fail
      go_region_held_law (fun W' => W'.cell? (qa.add (i * 2)) = some (.int .i64 fb) ∧ W'.cell? ⟨(qa.add (i * 2)).block, (qa.add (i * 2)).off + 1, none⟩ = some (.slice p0 fc c0) ∧ W'.cell? (qb.add (i * 2)) = some (.int .i64 fb) ∧ W'.cell? ⟨(qb.add (i * 2)).block, (qb.add (i * 2)).off + 1, none⟩ = some (.slice p1 fc c1)) (first | exact ⟨a0, a1, b0, b1⟩ | exact (show ∀ (W' : World), _ from HKEEP) _ k5)
        ((go_at_call 85; refine ((show ∀ W', W'.heap = wr.heap → W'.os = wr.os → W'.output = wr.output → Calls Try.prog 85 #[.agg #[.int .i64 fb, .slice p0 fc c0], .agg #[.int .i64 fb, .slice p1 fc c1]] W' fun e w' => e = .returned (.bool true) ∧ Kb 0 wr w' from HEQ) _ (by exact rfl) (by exact rfl) (by exact rfl)).mono ?_; rintro e w5 ⟨rfl, k5⟩))
      all_goals
        have HB5 : Hid (Kb 0 w w5) := (show Kb 0 w wr from HB).trans k5
        clear HB HKEEP HEQ k5 a0 a1 b0 b1
        go_wp2_with fail
        go_roundw
        case rel => exact ⟨i + 1, by go_num, by omega, HB5⟩
        case measure => simp [intOf]; omega
    · obtain rfl : i = n := by omega
      clear HA
      go_wp2_with fail
      go_ret
      exact ⟨rfl, HB⟩
end Go.Proofs.Ytaggciimacanbaa.Fo

namespace Go.Proofs.Ytaggciimacanbaa.Fo
open Go.ChangeShapes Go.WideShapes Go.ChangeAt Go.RowKit
set_option linter.unusedVariables false
set_option maxRecDepth 100000
/-- elements being copied: i of them are made -/
def TsE (K : Nat) (w1 : World) (g n : Nat) (F : Nat → Ed) (i : Nat) (wr : World) : Prop := ∃ (V : Nat → Value) (G : Nat → Nat), Mk K w1 g n (fun j => hdl K (F j) ++ [V j]) i wr ∧ (∀ j, j < i → OwnR wr (V j) (G j) (F j).c (ub (F j).A) ∧ w1.heap.size ≤ G j ∧ G j < wr.heap.size) ∧ (∀ j j', j < i → j' < i → j ≠ j' → G j ≠ G j')
theorem TsE.step {K : Nat} {w1 : World} {g n : Nat} {F : Nat → Ed} {i : Nat} {wr w6 : World} {v0 : Value} {b0 : Nat} (hK : K = 1 ∨ K = 2 ∨ K = 3) (h : TsE K w1 g n F i wr) (hi : i < n) (k6 : Kb 0 wr w6) (o : OwnR w6 v0 b0 (F i).c (ub (F i).A)) (hb : wr.heap.size ≤ b0 ∧ b0 < w6.heap.size) :
    (∀ t, t < K → ∃ u, w6.cell? ⟨g, i * K + t, none⟩ = some u) ∧ (∀ j, w6.frozen? ⟨g, j, none⟩ = false) ∧ TsE K w1 g n F (i + 1) (setL w6 g (i * K) (hdl K (F i) ++ [v0])) := by
  obtain ⟨V, G, hM, hR, hD⟩ := h
  have h6 := hM.kb k6
  refine ⟨h6.rest i (Nat.le_refl _) hi, h6.fz, fun j => if j = i then v0 else V j, fun j => if j = i then b0 else G j, ?_, fun j hj => ?_, fun j j' hj hj' hne => ?_⟩
  · have hs := h6.step hi (hd_len hK (F i) v0)
    have e : (fun j => if j = i then hdl K (F i) ++ [v0] else hdl K (F j) ++ [V j]) = (fun j => hdl K (F j) ++ [if j = i then v0 else V j]) := by
      funext j
      by_cases q : j = i
      · subst q; rw [if_pos rfl, if_pos rfl]
      · rw [if_neg q, if_neg q]
    rw [← e]
    exact hs
  · have hgl := hM.gl
    have hsz := hM.size
    have hfar : ∀ q, q ≠ g → (setL w6 g (i * K) (hdl K (F i) ++ [v0])).heap[q]? = w6.heap[q]? := fun q hq => setL_block _ _ hq _ _ _
    rw [setL_size]
    dsimp only
    by_cases q : j = i
    · subst q
      rw [if_pos rfl, if_pos rfl]
      exact ⟨o.kb (fun _ => hfar b0 (by omega)), by omega, hb.2⟩
    · rw [if_neg q, if_neg q]
      obtain ⟨r1, r2, r3⟩ := hR j (by omega)
      have := k6.size
      exact ⟨r1.kb (fun _ => (hfar _ (by omega)).trans (k6.block _ (Nat.zero_le _) r3)), r2, by omega⟩
  · dsimp only
    by_cases q : j = i
    · subst q
      rw [if_pos rfl, if_neg (fun e => hne e.symm)]
      have := (hR j' (by omega)).2.2
      omega
    · rw [if_neg q]
      by_cases q' : j' = i
      · subst q'
        rw [if_pos rfl]
        have := (hR j (by omega)).2.2
        omega
      · rw [if_neg q']
        exact hD j j' (by omega) (by omega) hne
theorem TsE.own {K : Nat} {w1 : World} {g n cap : Nat} {F : Nat → Ed} {wr : World} (h : TsE K w1 g n F n wr) (hc : n ≤ cap) (hg : w1.heap.size = g + 1) : ∃ V G, OwE K g wr.heap.size wr (.slice (some ⟨g, 0, none⟩) n cap) n F g V G := by
  obtain ⟨V, G, hM, hR, hD⟩ := h
  have := hM.size
  exact ⟨V, G, ⟨_, _, rfl, fun _ => ⟨rfl, hc⟩⟩, fun _ => ⟨Nat.le_refl _, by omega⟩, hM.ce, fun _ => hM.fz, fun i hi => (hR i hi).1, fun i hi hc => ⟨by have := (hR i hi).2.1; omega, (hR i hi).2.2, by have := (hR i hi).2.1; omega⟩, fun i j hi hj hne _ _ => hD i j hi hj hne⟩
theorem to_bytsK {va : Value} {n : Nat} {A : Nat → Int} (w : World) (ha : RowB 0 w va n (ub A)) (hn : n ≤ 1048576) :
    Calls Try.prog 12 #[va] w fun e w' => ∃ v b, e = .returned v ∧ OwnR w' v b n (ub A) ∧ (w.heap.size ≤ b ∧ b < w'.heap.size) ∧ Kb 0 w w' := (to_byts w ha.row hn).mono (fun e w' ⟨v, h1, h2, h3, h4⟩ => ⟨v, w.heap.size, h1, h2, ⟨Nat.le_refl _, h4⟩, Kb.of_below h3 0⟩)
set_option maxHeartbeats 8000000 in
theorem to_row1 {va : Value} {n : Nat} {F : Nat → Ed} (w : World) (ha : RowE 1 0 w va n F) (hn : n ≤ 1048576) (hF : ∀ i, i < n → (F i).c ≤ 1048576) :
    Calls Try.prog 46 #[va] w fun e w' => ∃ v g V G, e = .returned v ∧ OwE 1 w.heap.size w'.heap.size w' v n F g V G ∧ Kb 0 w w' := by
  obtain ⟨pa, ca, rfl, ha2⟩ := ha
  have hnI : (n : Int) ≤ 1048576 := by omega
  have hmk := run_make (P := Try.prog) w 22 26 Try.t26 (.slice none 0 0) Try.underlying22 (by kernel_rfl) (by kernel_rfl) .i64 .i64 (n : Int) (n : Int) (by omega) (Int.le_refl _) (by show (24 : Int) * (n : Int) ≤ _; omega) (by omega)
  rw [Int.toNat_natCast] at hmk
  obtain ⟨w1, hw1⟩ : ∃ w1, w1 = w.alloc (.cells (madeCells (.slice none 0 0 : Value).cells (n * 1)) 26) := ⟨_, rfl⟩
  have hmk2 := hmk
  rw [show n * Try.t26.size = n * 1 from rfl, ← hw1] at hmk2
  clear hmk
  have hk1 : Kb 0 w w1 := by rw [hw1]; exact kb_alloc _ _ _
  have hz1 : w1.heap.size = w.heap.size + 1 := by rw [hw1]; simp
  obtain ⟨G, hG⟩ : ∃ G, G = w.heap.size := ⟨_, rfl⟩
  have HI0 : Hid (TsE 1 w1 G n F 0 w1) := by
    refine (⟨fun _ => .slice none 0 0, fun _ => 0, ?_, fun j hj => by omega, fun j j' hj => by omega⟩ : TsE 1 w1 G n F 0 w1)
    rw [hG, hw1]
    exact mk_zero w _ 1 _ n _ rfl
  have HA : Hid ((0 < n → ∃ a : Addr, pa = some a ∧ n ≤ ca ∧ 0 ≤ a.block ∧ ∀ i, i < n → ElC 1 0 w (a.add (i * 1)) (F i)) ∧ Kb 0 w w1 ∧ G = w.heap.size ∧ w1.heap.size = G + 1 ∧ (∀ i, i < n → (F i).c ≤ 1048576)) := (⟨ha2, hk1, hG, by omega, hF⟩ : _ ∧ _)
  rw [← hG] at hmk2
  clear ha2 hk1 hw1 hn hG hF hz1
  go_enter Try.func46, Try.ntmps46
  go_wp2_with fail
  go_loopw [4] (fun s4 wr => ∃ i : Nat, s4 = .int .i64 (i : Int) ∧ i ≤ n ∧ Hid (TsE 1 w1 G n F i wr)) (fun s4 _ => n - (intOf s4).toNat)
  case atStart => exact ⟨0, rfl, Nat.zero_le _, HI0⟩
  case round =>
    clear HI0 hmk2
    obtain ⟨i, rfl, hin, HI⟩ := hrel
    have hT0 := (show TsE 1 w1 G n F i wr from HI)
    obtain ⟨V, Gf, hM, hR, hD⟩ := id hT0
    have hA := (show (0 < n → ∃ a : Addr, pa = some a ∧ n ≤ ca ∧ 0 ≤ a.block ∧ ∀ i, i < n → ElC 1 0 w (a.add (i * 1)) (F i)) ∧ Kb 0 w w1 ∧ G = w.heap.size ∧ w1.heap.size = G + 1 ∧ (∀ i, i < n → (F i).c ≤ 1048576) from HA)
    have hBW : Kb 0 w wr := by
      have hG := hA.2.2.1
      have hA2 := hA.2.1
      exact ⟨hM.os.trans hA2.os, hM.output.trans hA2.output, Nat.le_trans hA2.size hM.size, fun b _ hb => (hM.block b (Nat.lt_of_lt_of_le hb hA2.size) (by omega)).trans (hA2.block b (Nat.zero_le _) hb)⟩
    rcases Nat.lt_or_ge i n with hi | hi
    · have hiI : (i : Int) < (n : Int) := by omega
      obtain ⟨a, rfl, hca, _, hra⟩ := hA.1 (by omega)
      obtain ⟨vc, x0, xt, hvc⟩ := (hra i hi).keep (.inl rfl) (Nat.zero_le _) hBW
      have y1 := hA.2.2.2.2 i hi
      obtain ⟨q0, r0, rfl, -⟩ := id hvc
      have d0 : wr.cell? (a.add i) = some (.slice q0 (F i).c r0) := by have := x0; rw [Nat.mul_one] at this; exact this
      have HT : Hid (Calls Try.prog 12 #[.slice q0 (F i).c r0] wr fun e w' => ∃ v0 b, e = .returned (v0) ∧ OwnR w' v0 b (F i).c (ub (F i).A) ∧ (wr.heap.size ≤ b ∧ b < w'.heap.size) ∧ Kb 0 wr w') := to_bytsK wr hvc y1
      have HS : Hid (∀ w6 (v0 : Value) (b0 : Nat), Kb 0 wr w6 → OwnR w6 v0 b0 (F i).c (ub (F i).A) → (wr.heap.size ≤ b0 ∧ b0 < w6.heap.size) → (∀ t, t < 1 → ∃ u, w6.cell? ⟨G, i * 1 + t, none⟩ = some u) ∧ (∀ j, w6.frozen? ⟨G, j, none⟩ = false) ∧ TsE 1 w1 G n F (i + 1) (setL w6 G (i * 1) (hdl 1 (F i) ++ [v0]))) := (fun w6 v0 b0 k6 o hb => hT0.step (.inl rfl) hi k6 o hb : ∀ w6 (v0 : Value) (b0 : Nat), _)
      clear hA HA hM hR hD hT0 HI hra hin hBW hvc y1 x0 xt
      go_wp2_with fail
      refine (show Calls Try.prog 12 #[.slice q0 (F i).c r0] wr fun e w' => ∃ v0 b, e = .returned (v0) ∧ OwnR w' v0 b (F i).c (ub (F i).A) ∧ (wr.heap.size ≤ b ∧ b < w'.heap.size) ∧ Kb 0 wr w' from HT).mono ?_
      rintro e w6 ⟨v0, b0, rfl, o6, hb6, k6⟩
      obtain ⟨hc, hf, hT⟩ := (show ∀ w6 (v0 : Value) (b0 : Nat), _ from HS) w6 v0 b0 k6 o6 hb6
      obtain ⟨u0, hu0⟩ := hc 0 (by omega)
      have h0 : w6.cell? ⟨G, i, none⟩ = some u0 := by have := hu0; rw [Nat.mul_one, Nat.add_zero] at this; exact this
      have f0 : w6.frozen? ⟨G, i, none⟩ = false := hf i
      obtain ⟨p0, l0, rfl, _⟩ := id o6.sl
      have HTT : Hid (TsE 1 w1 G n F (i + 1) (w6.setCell ⟨G, i, none⟩ (.slice p0 (F i).c l0))) := by rw [Nat.mul_one] at hT; exact hT
      clear hc hf hT HS HT k6 o6 hb6 d0 hu0
      go_wp2_with fail
      go_roundw
      case rel => exact ⟨i + 1, by go_num, by omega, HTT⟩
      case measure => simp [intOf]; omega
    · obtain rfl : i = n := by omega
      have HE : Hid (TsE 1 w1 G i F i wr ∧ Kb 0 w wr ∧ G = w.heap.size ∧ w1.heap.size = G + 1) := (⟨hT0, hBW, hA.2.2.1, hA.2.2.2.1⟩ : _ ∧ _)
      clear HI hM hR hD hA HA hBW hT0
      go_wp2_with fail
      go_ret
      obtain ⟨hT, hB, hG, hz⟩ := (show _ ∧ _ ∧ _ ∧ _ from HE)
      obtain ⟨V, Gf, ho⟩ := hT.own (Nat.le_refl i) hz
      subst hG
      exact ⟨_, _, V, Gf, rfl, ho, hB⟩
set_option maxHeartbeats 8000000 in
theorem to_el2 {f : Ed} {vc : Value} {c : Nat} {A : Nat → Int} (w : World)
    (g0 : ∀ W, Kb 0 w W → Calls Try.prog 12 #[vc] W fun e w' => ∃ v b, e = .returned v ∧ OwnR w' v b c (ub A) ∧ (W.heap.size ≤ b ∧ b < w'.heap.size) ∧ Kb 0 W w') :
    Calls Try.prog 80 #[.agg #[.int .i64 f.b, vc]] w fun e w' => ∃ v0 b, e = .returned (.agg #[.int .i64 f.b, v0]) ∧ OwnR w' v0 b c (ub A) ∧ (w.heap.size ≤ b ∧ b < w'.heap.size) ∧ Kb 0 w w' := by
  have G0 : Hid (∀ W, Kb 0 w W → Calls Try.prog 12 #[vc] W fun e w' => ∃ v b, e = .returned v ∧ OwnR w' v b c (ub A) ∧ (W.heap.size ≤ b ∧ b < w'.heap.size) ∧ Kb 0 W w') := g0
  clear g0
  go_enter Try.func80, Try.ntmps80
  go_wp2_with fail
  obtain ⟨w3, hw3⟩ : ∃ w3, w3 = ((w.alloc (.cells #[.int .i64 f.b, vc] 108)).alloc (.cells #[.int .i64 0, .slice none 0 0] 71)).alloc (.cells #[.int .i64 f.b, .slice none 0 0] 71) := ⟨_, rfl⟩
  rw [← hw3]
  obtain ⟨b0, b1, b2, z3, k3⟩ := three_new w _ _ _ _ _ _ w3 hw3
  clear hw3
  refine ((show ∀ W, Kb 0 w W → Calls Try.prog 12 #[vc] W fun e w' => ∃ v b, e = .returned v ∧ OwnR w' v b c (ub A) ∧ (W.heap.size ≤ b ∧ b < w'.heap.size) ∧ Kb 0 W w' from G0) w3 k3).mono ?_
  rintro e x0 ⟨v0, bb, rfl, r0, hbb, q0⟩
  clear G0
  have zq0 := q0.size
  have b1x0 : x0.heap[w.heap.size + 1]? = some (.cells #[.int .i64 0, .slice none 0 0] 71 (0, 0)) := (q0.block _ (Nat.zero_le _) (by omega)).trans b1
  have b2x0 : x0.heap[w.heap.size + 1 + 1]? = some (.cells #[.int .i64 f.b, .slice none 0 0] 71 (0, 0)) := (q0.block _ (Nat.zero_le _) (by omega)).trans b2
  clear b0 b1 b2
  obtain ⟨p0, l0, rfl, _⟩ := id r0.sl
  have KW := k3.trans q0
  have e0 : x0.cell? ⟨w.heap.size + 1 + 1, 0, none⟩ = some (.int .i64 f.b) := cell_of b2x0 rfl
  have e1 : x0.cell? ⟨w.heap.size + 1 + 1, 1, none⟩ = some (.slice none 0 0) := cell_of b2x0 rfl
  have fz : x0.frozen? ⟨w.heap.size + 1 + 1, 1, none⟩ = false := frozen_of b2x0
  have a0 : x0.cell? ⟨w.heap.size + 1, 0, none⟩ = some (.int .i64 0) := cell_of b1x0 rfl
  have a1 : x0.cell? ⟨w.heap.size + 1, 1, none⟩ = some (.slice none 0 0) := cell_of b1x0 rfl
  have fy : ∀ j, x0.frozen? ⟨w.heap.size + 1, j, none⟩ = false := fun j => frozen_of b1x0
  have HE : Hid (Kb 0 w x0 ∧ OwnR x0 (.slice p0 c l0) bb c (ub A) ∧ w.heap.size + 3 ≤ bb ∧ bb < x0.heap.size) := (⟨KW, r0, by omega, hbb.2⟩ : _ ∧ _)
  clear KW b1x0 b2x0 r0 q0 zq0 k3 z3 hbb
  go_wp2_with fail
  refine bodyPost_ret (by simp [results, Try.results80, go_sem, a0, a1]; rfl) rfl ?_
  obtain ⟨KW, s0, hb1, hb2⟩ := (show _ ∧ _ ∧ _ ∧ _ from HE)
  clear HE
  have hq := ((((Kb.refl (w.heap.size + 3) x0).setCell ⟨w.heap.size + 1 + 1, 1, none⟩ (Or.inl (show w.heap.size + 1 + 1 < w.heap.size + 3 by omega)) (.slice p0 c l0)).setCell ⟨w.heap.size + 1, 0, none⟩ (Or.inl (show w.heap.size + 1 < w.heap.size + 3 by omega)) (.int .i64 f.b)).setCell ⟨w.heap.size + 1, 1, none⟩ (Or.inl (show w.heap.size + 1 < w.heap.size + 3 by omega)) (.slice p0 c l0))
  have hk := (((KW.setCell ⟨w.heap.size + 1 + 1, 1, none⟩ (Or.inr (show w.heap.size ≤ w.heap.size + 1 + 1 by omega)) (.slice p0 c l0)).setCell ⟨w.heap.size + 1, 0, none⟩ (Or.inr (show w.heap.size ≤ w.heap.size + 1 by omega)) (.int .i64 f.b)).setCell ⟨w.heap.size + 1, 1, none⟩ (Or.inr (show w.heap.size ≤ w.heap.size + 1 by omega)) (.slice p0 c l0))
  exact ⟨_, bb, rfl, s0.kb (fun _ => hq.block bb (by omega) hb2), ⟨by omega, Nat.lt_of_lt_of_le hb2 hq.size⟩, hk⟩
set_option maxHeartbeats 8000000 in
theorem to_row2 {va : Value} {n : Nat} {F : Nat → Ed} (w : World) (ha : RowE 2 0 w va n F) (hn : n ≤ 1048576) (hF : ∀ i, i < n → (F i).c ≤ 1048576) :
    Calls Try.prog 47 #[va] w fun e w' => ∃ v g V G, e = .returned v ∧ OwE 2 w.heap.size w'.heap.size w' v n F g V G ∧ Kb 0 w w' := by
  obtain ⟨pa, ca, rfl, ha2⟩ := ha
  have hnI : (n : Int) ≤ 1048576 := by omega
  have hmk := run_make (P := Try.prog) w 28 71 Try.t71 (.agg #[.int .i64 0, .slice none 0 0]) Try.underlying28 (by kernel_rfl) (by kernel_rfl) .i64 .i64 (n : Int) (n : Int) (by omega) (Int.le_refl _) (by show (32 : Int) * (n : Int) ≤ _; omega) (by omega)
  rw [Int.toNat_natCast] at hmk
  obtain ⟨w1, hw1⟩ : ∃ w1, w1 = w.alloc (.cells (madeCells (.agg #[.int .i64 0, .slice none 0 0] : Value).cells (n * 2)) 71) := ⟨_, rfl⟩
  have hmk2 := hmk
  rw [show n * Try.t71.size = n * 2 from rfl, ← hw1] at hmk2
  clear hmk
  have hk1 : Kb 0 w w1 := by rw [hw1]; exact kb_alloc _ _ _
  have hz1 : w1.heap.size = w.heap.size + 1 := by rw [hw1]; simp
  obtain ⟨G, hG⟩ : ∃ G, G = w.heap.size := ⟨_, rfl⟩
  have HI0 : Hid (TsE 2 w1 G n F 0 w1) := by
    refine (⟨fun _ => .slice none 0 0, fun _ => 0, ?_, fun j hj => by omega, fun j j' hj => by omega⟩ : TsE 2 w1 G n F 0 w1)
    rw [hG, hw1]
    exact mk_zero w _ 2 _ n _ rfl
  have HA : Hid ((0 < n → ∃ a : Addr, pa = some a ∧ n ≤ ca ∧ 0 ≤ a.block ∧ ∀ i, i < n → ElC 2 0 w (a.add (i * 2)) (F i)) ∧ Kb 0 w w1 ∧ G = w.heap.size ∧ w1.heap.size = G + 1 ∧ (∀ i, i < n → (F i).c ≤ 1048576)) := (⟨ha2, hk1, hG, by omega, hF⟩ : _ ∧ _)
  rw [← hG] at hmk2
  clear ha2 hk1 hw1 hn hG hF hz1
  go_enter Try.func47, Try.ntmps47
  go_wp2_with fail
  go_loopw [4] (fun s4 wr => ∃ i : Nat, s4 = .int .i64 (i : Int) ∧ i ≤ n ∧ Hid (TsE 2 w1 G n F i wr)) (fun s4 _ => n - (intOf s4).toNat)
  case atStart => exact ⟨0, rfl, Nat.zero_le _, HI0⟩
  case round =>
    clear HI0 hmk2
    obtain ⟨i, rfl, hin, HI⟩ := hrel
    have hT0 := (show TsE 2 w1 G n F i wr from HI)
    obtain ⟨V, Gf, hM, hR, hD⟩ := id hT0
    have hA := (show (0 < n → ∃ a : Addr, pa = some a ∧ n ≤ ca ∧ 0 ≤ a.block ∧ ∀ i, i < n → ElC 2 0 w (a.add (i * 2)) (F i)) ∧ Kb 0 w w1 ∧ G = w.heap.size ∧ w1.heap.size = G + 1 ∧ (∀ i, i < n → (F i).c ≤ 1048576) from HA)
    have hBW : Kb 0 w wr := by
      have hG := hA.2.2.1
      have hA2 := hA.2.1
      exact ⟨hM.os.trans hA2.os, hM.output.trans hA2.output, Nat.le_trans hA2.size hM.size, fun b _ hb => (hM.block b (Nat.lt_of_lt_of_le hb hA2.size) (by omega)).trans (hA2.block b (Nat.zero_le _) hb)⟩
    rcases Nat.lt_or_ge i n with hi | hi
    · have hiI : (i : Int) < (n : Int) := by omega
      obtain ⟨a, rfl, hca, _, hra⟩ := hA.1 (by omega)
      obtain ⟨vc, x0, xt, hvc⟩ := (hra i hi).keep (.inr (.inl rfl)) (Nat.zero_le _) hBW
      have y1 := hA.2.2.2.2 i hi
      obtain ⟨q0, r0, rfl, -⟩ := id hvc
      have d0 : wr.cell? (a.add (i * 2)) = some (.int .i64 (F i).b) := x0
      have d1 : wr.cell? ⟨(a.add (i * 2)).block, (a.add (i * 2)).off + 1, none⟩ = some (.slice q0 (F i).c r0) := xt 1 (by omega) (by omega)
      have HT : Hid (Calls Try.prog 80 #[.agg #[.int .i64 (F i).b, .slice q0 (F i).c r0]] wr fun e w' => ∃ v0 b, e = .returned (.agg #[.int .i64 (F i).b, v0]) ∧ OwnR w' v0 b (F i).c (ub (F i).A) ∧ (wr.heap.size ≤ b ∧ b < w'.heap.size) ∧ Kb 0 wr w') := to_el2 wr (fun W k => to_bytsK W (hvc.keep k) y1)
      have HS : Hid (∀ w6 (v0 : Value) (b0 : Nat), Kb 0 wr w6 → OwnR w6 v0 b0 (F i).c (ub (F i).A) → (wr.heap.size ≤ b0 ∧ b0 < w6.heap.size) → (∀ t, t < 2 → ∃ u, w6.cell? ⟨G, i * 2 + t, none⟩ = some u) ∧ (∀ j, w6.frozen? ⟨G, j, none⟩ = false) ∧ TsE 2 w1 G n F (i + 1) (setL w6 G (i * 2) (hdl 2 (F i) ++ [v0]))) := (fun w6 v0 b0 k6 o hb => hT0.step (.inr (.inl rfl)) hi k6 o hb : ∀ w6 (v0 : Value) (b0 : Nat), _)
      clear hA HA hM hR hD hT0 HI hra hin hBW hvc y1 x0 xt
      go_wp2_with fail
      refine (show Calls Try.prog 80 #[.agg #[.int .i64 (F i).b, .slice q0 (F i).c r0]] wr fun e w' => ∃ v0 b, e = .returned (.agg #[.int .i64 (F i).b, v0]) ∧ OwnR w' v0 b (F i).c (ub (F i).A) ∧ (wr.heap.size ≤ b ∧ b < w'.heap.size) ∧ Kb 0 wr w' from HT).mono ?_
      rintro e w6 ⟨v0, b0, rfl, o6, hb6, k6⟩
      obtain ⟨hc, hf, hT⟩ := (show ∀ w6 (v0 : Value) (b0 : Nat), _ from HS) w6 v0 b0 k6 o6 hb6
      obtain ⟨u0, hu0⟩ := hc 0 (by omega)
      obtain ⟨u1, hu1⟩ := hc 1 (by omega)
      have h0 : w6.cell? ⟨G, i * 2, none⟩ = some u0 := hu0
      have f0 : w6.frozen? ⟨G, i * 2, none⟩ = false := hf _
      have h1 : w6.cell? ⟨G, i * 2 + 1, none⟩ = some u1 := hu1
      have f1 : w6.frozen? ⟨G, i * 2 + 1, none⟩ = false := hf _
      obtain ⟨p0, l0, rfl, _⟩ := id o6.sl
      have HTT : Hid (TsE 2 w1 G n F (i + 1) ((w6.setCell ⟨G, i * 2, none⟩ (.int .i64 (F i).b)).setCell ⟨G, i * 2 + 1, none⟩ (.slice p0 (F i).c l0))) := hT
      clear hc hf hT HS HT k6 o6 hb6 d0 hu0 d1 hu1
      go_wp2_with fail
      go_roundw
      case rel => exact ⟨i + 1, by go_num, by omega, HTT⟩
      case measure => simp [intOf]; omega
    · obtain rfl : i = n := by omega
      have HE : Hid (TsE 2 w1 G i F i wr ∧ Kb 0 w wr ∧ G = w.heap.size ∧ w1.heap.size = G + 1) := (⟨hT0, hBW, hA.2.2.1, hA.2.2.2.1⟩ : _ ∧ _)
      clear HI hM hR hD hA HA hBW hT0
      go_wp2_with fail
      go_ret
      obtain ⟨hT, hB, hG, hz⟩ := (show _ ∧ _ ∧ _ ∧ _ from HE)
      obtain ⟨V, Gf, ho⟩ := hT.own (Nat.le_refl i) hz
      subst hG
      exact ⟨_, _, V, Gf, rfl, ho, hB⟩
end Go.Proofs.Ytaggciimacanbaa.Fo

namespace Go.Proofs.Ytaggciimacanbaa.Fo
open Go.ChangeShapes Go.WideShapes Go.ChangeAt Go.RowKit
set_option linter.unusedVariables false
set_option maxRecDepth 100000
set_option maxHeartbeats 8000000 in
theorem mark_row1 {L H : Nat} {v : Value} {n : Nat} {F : Nat → Ed} {g : Nat} {V : Nat → Value} {G : Nat → Nat} (w : World) (k : Int) (h : OwE 1 L H w v n F g V G) (hn : n ≤ 1048576) (hc : ∀ i, i < n → (F i).c ≤ 1048576) (hk1 : 1 ≤ k) (hsm : k + (sm (mks 1 F) n : Int) ≤ 90000000) :
    Calls Try.prog 52 #[v, .int .i64 k] w fun e w' => e = .returned (.int .i64 (k + (sm (mks 1 F) n : Int))) ∧ Kq (fun q => L ≤ q ∧ q < H) w w' ∧ MdE 1 L H w' v n F g V G k := by
  obtain ⟨p, cap, rfl, h2⟩ := h.sl
  by_cases h0 : n = 0
  · subst h0
    go_enter Try.func52, Try.ntmps52
    go_wp2_with fail
    refine wp_loop_rounds 1 ?_
    rw [rounds_succ]
    go_wp2_with fail
    go_ret
    exact ⟨by simp [sm], Kq.refl _ _, ⟨⟨p, cap, rfl, fun q => by omega⟩, fun q => by omega, fun j hj => by omega, fun i hi => by omega, fun i hi => by omega⟩⟩
  obtain ⟨rfl, hcap⟩ := h2 (by omega)
  have HI0 : Hid (GE 1 L H w n F g V G k 0 w) := (⟨Kq.refl _ _, fun j hj t ht => by dsimp only; rw [if_neg (by omega)]; exact h.cs j hj t ht, h.fz (by omega), fun j _ hj => h.ow j hj, fun j hj => by omega⟩ : GE 1 L H w n F g V G k 0 w)
  have hnI : (n : Int) ≤ 1048576 := by omega
  have HS : Hid ((L ≤ g ∧ g < H) ∧ (∀ i, i < n → 0 < (F i).c → L ≤ G i ∧ G i < H ∧ G i ≠ g) ∧ (∀ i j, i < n → j < n → i ≠ j → 0 < (F i).c → 0 < (F j).c → G i ≠ G j) ∧ (∀ i, i < n → (F i).c ≤ 1048576) ∧ k + (sm (mks 1 F) n : Int) ≤ 90000000 ∧ n ≤ cap) := (⟨h.bg (by omega), h.lo, h.di, hc, hsm, hcap⟩ : _ ∧ _)
  clear h2 h hc hsm h0
  go_enter Try.func52, Try.ntmps52
  go_wp2_with fail
  go_loopw [1, 5] (fun s1 s5 wr => ∃ i : Nat, s5 = .int .i64 (i : Int) ∧ s1 = .int .i64 (k + (sm (mks 1 F) i : Int)) ∧ i ≤ n ∧ Hid (GE 1 L H w n F g V G k i wr)) (fun _ s5 _ => n - (intOf s5).toNat)
  case atStart => exact ⟨0, rfl, by simp [sm], Nat.zero_le _, HI0⟩
  case round =>
    clear HI0
    obtain ⟨i, rfl, rfl, hin, HI⟩ := hrel
    have hI := (show GE 1 L H w n F g V G k i wr from HI)
    clear HI
    obtain ⟨bg, lo, di, hcc, hsm, hcap2⟩ := (show _ ∧ _ ∧ _ ∧ _ ∧ _ ∧ _ from HS)
    rcases Nat.lt_or_ge i n with hi | hi
    · have hiI : (i : Int) < (n : Int) := by omega
      have hmo := sm_mono (mks 1 F) (show i + 1 ≤ n from hi)
      have hsu : sm (mks 1 F) (i + 1) = sm (mks 1 F) i + (1 - 1 + (F i).c) := rfl
      have hci := hcc i hi
      obtain ⟨X, hX⟩ : ∃ X : Int, X = k + (sm (mks 1 F) i : Int) := ⟨_, rfl⟩
      have hx : X ≤ 90000000 := by omega
      have hx0 : 1 ≤ X := by omega
      rw [← hX]
      obtain ⟨y, hy⟩ : ∃ y, y = wr := ⟨_, rfl⟩
      have hyL : y = setL wr g (i * 1) (hml 1 X) := by rw [hy]; rfl
      have hyg : ∀ q, q ≠ g → y.heap[q]? = wr.heap[q]? := fun q hq => by rw [hy]
      have r1 : y.cell? ⟨g, i, none⟩ = some (V i) := by
        rw [hy]
        have := hI.cs i hi 0 (by omega); dsimp only at this; rw [if_neg (by omega), Nat.mul_one, Nat.add_zero] at this; exact this
      have HMV := mark_byts y X ((hI.ow i (Nat.le_refl _) hi).kb (fun hc => hyg _ (lo i hi (by omega)).2.2)) hci (by omega) (by omega)
      have HST : Hid (∀ w6, Kq (fun q => 0 < (F i).c ∧ q = G i) y w6 → OwnR w6 (V i) (G i) (F i).c (fun t => .int .u8 ((X + (t : Int)) % 256)) → GE 1 L H w n F g V G k (i + 1) w6) := (fun w6 kq6 md6 => by
        rw [hyL, hX] at kq6
        refine hI.step (.inl rfl) hi bg lo di kq6 ?_
        have e : X = k + (sm (mks 1 F) i : Int) + ((1 - 1 : Nat) : Int) := by rw [hX]; simp
        rw [e] at md6
        exact md6 : ∀ w6, _)
      obtain ⟨pv, cv, hV, _⟩ := (hI.ow i (Nat.le_refl _) hi).sl
      rw [hV] at r1 HMV
      have HKN : Hid (X + ((F i).c : Int) = k + (sm (mks 1 F) (i + 1) : Int) ∧ V i = .slice pv (F i).c cv) := (⟨by rw [hsu, hX]; push_cast; omega, hV⟩ : _ ∧ _)
      have HY : Hid (y = wr) := hy
      clear hI bg lo di hcc hsm hmo hsu hX hy hyL hyg hV HS
      rw [show wr = y from (show y = _ from HY).symm]
      clear HY
      go_wp2_with fail
      refine HMV.mono ?_
      rintro e w6 ⟨rfl, kq6, md6⟩
      have HN : Hid (GE 1 L H w n F g V G k (i + 1) w6) := (show ∀ w6, _ → _ → _ from HST) w6 kq6 (by rw [(show _ ∧ _ from HKN).2]; exact md6)
      clear kq6 md6 HMV HST r1
      go_wp2_with fail
      go_roundw
      case rel => exact ⟨i + 1, by go_num, by rw [← (show _ ∧ _ from HKN).1], by omega, HN⟩
      case measure => simp [intOf]; omega
    · obtain rfl : i = n := by omega
      have hI' : ¬ (i : Int) < (i : Int) := by omega
      have HE : Hid (GE 1 L H w i F g V G k i wr ∧ (L ≤ g ∧ g < H) ∧ (∀ q, q < i → 0 < (F q).c → L ≤ G q ∧ G q < H) ∧ i ≤ cap) := (⟨hI, bg, fun q hq hc => ⟨(lo q hq hc).1, (lo q hq hc).2.1⟩, hcap2⟩ : _ ∧ _)
      clear hI hi hin hcap bg lo di hcc hsm hcap2 HS
      go_wp2_with fail
      go_ret
      obtain ⟨hE, bg, lo, hcap⟩ := (show _ ∧ _ ∧ _ ∧ _ from HE)
      exact ⟨rfl, hE.kq, ⟨⟨_, _, rfl, fun _ => ⟨rfl, hcap⟩⟩, fun _ => bg, fun j hj t ht => by have := hE.cs j hj t ht; dsimp only at this; rw [if_pos hj] at this; exact this, hE.md, lo⟩⟩
set_option maxHeartbeats 8000000 in
theorem held_row1 {L H : Nat} {v : Value} {n : Nat} {F : Nat → Ed} {g : Nat} {V : Nat → Value} {G : Nat → Nat} (w : World) (k : Int) (h : MdE 1 L H w v n F g V G k) (hn : n ≤ 1048576) (hc : ∀ i, i < n → (F i).c ≤ 1048576) (hk1 : 1 ≤ k) (hsm : k + (sm (mks 1 F) n : Int) ≤ 90000000) :
    Calls Try.prog 54 #[v, .int .i64 k] w fun e w' => e = .returned (.int .i64 (k + (sm (mks 1 F) n : Int))) ∧ Kb 0 w w' := by
  obtain ⟨p, cap, rfl, h2⟩ := h.sl
  have hnI : (n : Int) ≤ 1048576 := by omega
  have HH : Hid ((0 < n → p = some ⟨g, 0, none⟩ ∧ n ≤ cap) ∧ Cs 1 w g n (fun j => hml 1 (k + (sm (mks 1 F) j : Int)) ++ [V j]) ∧ (∀ i, i < n → OwnR w (V i) (G i) (F i).c (fun j => .int .u8 ((k + (sm (mks 1 F) i : Int) + ((1 - 1 : Nat) : Int) + (j : Int)) % 256))) ∧ (∀ i, i < n → (F i).c ≤ 1048576) ∧ k + (sm (mks 1 F) n : Int) ≤ 90000000) := (⟨h2, h.cs, h.md, hc, hsm⟩ : _ ∧ _)
  clear h2 h hc hsm
  go_enter Try.func54, Try.ntmps54
  go_wp2_with fail
  go_loopw [1, 5] (fun s1 s5 wr => ∃ i : Nat, s5 = .int .i64 (i : Int) ∧ s1 = .int .i64 (k + (sm (mks 1 F) i : Int)) ∧ i ≤ n ∧ Hid (Kb 0 w wr)) (fun _ s5 _ => n - (intOf s5).toNat)
  case atStart => exact ⟨0, rfl, by simp [sm], Nat.zero_le _, Kb.refl _ _⟩
  case round =>
    obtain ⟨i, rfl, rfl, hin, HI⟩ := hrel
    have kw := (show Kb 0 w wr from HI)
    obtain ⟨hp, hcs, hmd, hcc, hsm⟩ := (show _ ∧ _ ∧ _ ∧ _ ∧ _ from HH)
    rcases Nat.lt_or_ge i n with hi | hi
    · have hiI : (i : Int) < (n : Int) := by omega
      obtain ⟨rfl, hcap⟩ := hp (by omega)
      have hmo := sm_mono (mks 1 F) (show i + 1 ≤ n from hi)
      have hsu : sm (mks 1 F) (i + 1) = sm (mks 1 F) i + (1 - 1 + (F i).c) := rfl
      have hci := hcc i hi
      have hm := hmd i hi
      obtain ⟨X, hX⟩ : ∃ X : Int, X = k + (sm (mks 1 F) i : Int) := ⟨_, rfl⟩
      rw [← hX] at hm
      have hx : X ≤ 90000000 := by omega
      have hx0 : 1 ≤ X := by omega
      have hx2 : ¬ X + ((F i).c : Int) < 0 := by omega
      have d0 : wr.cell? ⟨g, i, none⟩ = some (V i) := by have := hcs i hi 0 (by omega); dsimp only at this; rw [← hX, Nat.mul_one, Nat.add_zero] at this; exact kw.cell this
      have e : X + ((1 - 1 : Nat) : Int) = X := by simp
      rw [e] at hm
      have hm2 : OwnR wr (V i) (G i) (F i).c (fun j => .int .u8 ((X + (j : Int)) % 256)) := hm.kb (fun hne => kw.block _ (Nat.zero_le _) (lt_of_cell (hm.cell 0 (by omega))))
      have HMV := held_byts wr X hm2.row hci (by omega) (by omega)
      obtain ⟨pv, cv, hV, _⟩ := hm.sl
      rw [hV] at d0 HMV
      have HKN : Hid (X + ((F i).c : Int) = k + (sm (mks 1 F) (i + 1) : Int)) := (by rw [hsu, hX]; push_cast; omega : X + ((F i).c : Int) = k + (sm (mks 1 F) (i + 1) : Int))
      rw [← hX]
      clear hp hcs hmd hcc hsm hmo hsu hX hm hm2 hV HH hcap e
      go_wp2_with fail
      refine HMV.mono ?_
      rintro e w6 ⟨rfl, d6, hw6⟩
      have HN : Hid (Kb 0 w w6) := by rw [hw6]; exact kw.drewN d6
      clear hw6 kw HMV d0 HI
      go_wp2_with fail
      go_roundw
      case rel => exact ⟨i + 1, by go_num, by rw [← (show _ = _ from HKN)], by omega, HN⟩
      case measure => simp [intOf]; omega
    · obtain rfl : i = n := by omega
      have hI' : ¬ (i : Int) < (i : Int) := by omega
      clear HH hi hin kw hp hcs hmd hcc hsm
      go_wp2_with fail
      go_ret
      exact ⟨rfl, HI⟩
set_option maxHeartbeats 8000000 in
theorem mark_row2 {L H : Nat} {v : Value} {n : Nat} {F : Nat → Ed} {g : Nat} {V : Nat → Value} {G : Nat → Nat} (w : World) (k : Int) (h : OwE 2 L H w v n F g V G) (hn : n ≤ 1048576) (hc : ∀ i, i < n → (F i).c ≤ 1048576) (hk1 : 1 ≤ k) (hsm : k + (sm (mks 2 F) n : Int) ≤ 90000000) :
    Calls Try.prog 53 #[v, .int .i64 k] w fun e w' => e = .returned (.int .i64 (k + (sm (mks 2 F) n : Int))) ∧ Kq (fun q => L ≤ q ∧ q < H) w w' ∧ MdE 2 L H w' v n F g V G k := by
  obtain ⟨p, cap, rfl, h2⟩ := h.sl
  by_cases h0 : n = 0
  · subst h0
    go_enter Try.func53, Try.ntmps53
    go_wp2_with fail
    refine wp_loop_rounds 1 ?_
    rw [rounds_succ]
    go_wp2_with fail
    go_ret
    exact ⟨by simp [sm], Kq.refl _ _, ⟨⟨p, cap, rfl, fun q => by omega⟩, fun q => by omega, fun j hj => by omega, fun i hi => by omega, fun i hi => by omega⟩⟩
  obtain ⟨rfl, hcap⟩ := h2 (by omega)
  have HI0 : Hid (GE 2 L H w n F g V G k 0 w) := (⟨Kq.refl _ _, fun j hj t ht => by dsimp only; rw [if_neg (by omega)]; exact h.cs j hj t ht, h.fz (by omega), fun j _ hj => h.ow j hj, fun j hj => by omega⟩ : GE 2 L H w n F g V G k 0 w)
  have hnI : (n : Int) ≤ 1048576 := by omega
  have HS : Hid ((L ≤ g ∧ g < H) ∧ (∀ i, i < n → 0 < (F i).c → L ≤ G i ∧ G i < H ∧ G i ≠ g) ∧ (∀ i j, i < n → j < n → i ≠ j → 0 < (F i).c → 0 < (F j).c → G i ≠ G j) ∧ (∀ i, i < n → (F i).c ≤ 1048576) ∧ k + (sm (mks 2 F) n : Int) ≤ 90000000 ∧ n ≤ cap) := (⟨h.bg (by omega), h.lo, h.di, hc, hsm, hcap⟩ : _ ∧ _)
  clear h2 h hc hsm h0
  go_enter Try.func53, Try.ntmps53
  go_wp2_with fail
  go_loopw [1, 5] (fun s1 s5 wr => ∃ i : Nat, s5 = .int .i64 (i : Int) ∧ s1 = .int .i64 (k + (sm (mks 2 F) i : Int)) ∧ i ≤ n ∧ Hid (GE 2 L H w n F g V G k i wr)) (fun _ s5 _ => n - (intOf s5).toNat)
  case atStart => exact ⟨0, rfl, by simp [sm], Nat.zero_le _, HI0⟩
  case round =>
    clear HI0
    obtain ⟨i, rfl, rfl, hin, HI⟩ := hrel
    have hI := (show GE 2 L H w n F g V G k i wr from HI)
    clear HI
    obtain ⟨bg, lo, di, hcc, hsm, hcap2⟩ := (show _ ∧ _ ∧ _ ∧ _ ∧ _ ∧ _ from HS)
    rcases Nat.lt_or_ge i n with hi | hi
    · have hiI : (i : Int) < (n : Int) := by omega
      have hmo := sm_mono (mks 2 F) (show i + 1 ≤ n from hi)
      have hsu : sm (mks 2 F) (i + 1) = sm (mks 2 F) i + (2 - 1 + (F i).c) := rfl
      have hci := hcc i hi
      obtain ⟨X, hX⟩ : ∃ X : Int, X = k + (sm (mks 2 F) i : Int) := ⟨_, rfl⟩
      have hx : X ≤ 90000000 := by omega
      have hx0 : 1 ≤ X := by omega
      rw [← hX]
      have cu0 : wr.cell? ⟨g, i * 2, none⟩ = some (.int .i64 (F i).b) := by have := hI.cs i hi 0 (by omega); dsimp only at this; rw [if_neg (by omega)] at this; exact this
      have fu0 : wr.frozen? ⟨g, i * 2, none⟩ = false := hI.fz _
      obtain ⟨y, hy⟩ : ∃ y, y = wr.setCell ⟨g, i * 2, none⟩ (.int .i64 X) := ⟨_, rfl⟩
      have hyL : y = setL wr g (i * 2) (hml 2 X) := hy
      have hyg : ∀ q, q ≠ g → y.heap[q]? = wr.heap[q]? := fun q hq => by rw [hy]; exact Below.heap_setCell _ _ _ _ hq
      have r1 : y.cell? ⟨g, i * 2 + 1, none⟩ = some (V i) := by
        rw [hy]
        rw [set_ne _ _ _ _ _ (by omega)]; have := hI.cs i hi 1 (by omega); dsimp only at this; rw [if_neg (by omega)] at this; exact this
      have HMV := mark_byts y (X + 1) ((hI.ow i (Nat.le_refl _) hi).kb (fun hc => hyg _ (lo i hi (by omega)).2.2)) hci (by omega) (by omega)
      have HST : Hid (∀ w6, Kq (fun q => 0 < (F i).c ∧ q = G i) y w6 → OwnR w6 (V i) (G i) (F i).c (fun t => .int .u8 (((X + 1) + (t : Int)) % 256)) → GE 2 L H w n F g V G k (i + 1) w6) := (fun w6 kq6 md6 => by
        rw [hyL, hX] at kq6
        refine hI.step (.inr (.inl rfl)) hi bg lo di kq6 ?_
        have e : (X + 1) = k + (sm (mks 2 F) i : Int) + ((2 - 1 : Nat) : Int) := by rw [hX]; rfl
        rw [e] at md6
        exact md6 : ∀ w6, _)
      obtain ⟨pv, cv, hV, _⟩ := (hI.ow i (Nat.le_refl _) hi).sl
      rw [hV] at r1 HMV
      have HKN : Hid ((X + 1) + ((F i).c : Int) = k + (sm (mks 2 F) (i + 1) : Int) ∧ V i = .slice pv (F i).c cv) := (⟨by rw [hsu, hX]; push_cast; omega, hV⟩ : _ ∧ _)
      have HY : Hid (y = wr.setCell ⟨g, i * 2, none⟩ (.int .i64 X)) := hy
      clear hI bg lo di hcc hsm hmo hsu hX hy hyL hyg hV HS
      go_upto_region 5 with fail
      rw [← (show y = _ from HY)]
      clear HY cu0 fu0
      go_wp2_with fail
      refine HMV.mono ?_
      rintro e w6 ⟨rfl, kq6, md6⟩
      have HN : Hid (GE 2 L H w n F g V G k (i + 1) w6) := (show ∀ w6, _ → _ → _ from HST) w6 kq6 (by rw [(show _ ∧ _ from HKN).2]; exact md6)
      clear kq6 md6 HMV HST r1
      go_wp2_with fail
      go_roundw
      case rel => exact ⟨i + 1, by go_num, by rw [← (show _ ∧ _ from HKN).1], by omega, HN⟩
      case measure => simp [intOf]; omega
    · obtain rfl : i = n := by omega
      have hI' : ¬ (i : Int) < (i : Int) := by omega
      have HE : Hid (GE 2 L H w i F g V G k i wr ∧ (L ≤ g ∧ g < H) ∧ (∀ q, q < i → 0 < (F q).c → L ≤ G q ∧ G q < H) ∧ i ≤ cap) := (⟨hI, bg, fun q hq hc => ⟨(lo q hq hc).1, (lo q hq hc).2.1⟩, hcap2⟩ : _ ∧ _)
      clear hI hi hin hcap bg lo di hcc hsm hcap2 HS
      go_wp2_with fail
      go_ret
      obtain ⟨hE, bg, lo, hcap⟩ := (show _ ∧ _ ∧ _ ∧ _ from HE)
      exact ⟨rfl, hE.kq, ⟨⟨_, _, rfl, fun _ => ⟨rfl, hcap⟩⟩, fun _ => bg, fun j hj t ht => by have := hE.cs j hj t ht; dsimp only at this; rw [if_pos hj] at this; exact this, hE.md, lo⟩⟩
set_option maxHeartbeats 8000000 in
theorem held_row2 {L H : Nat} {v : Value} {n : Nat} {F : Nat → Ed} {g : Nat} {V : Nat → Value} {G : Nat → Nat} (w : World) (k : Int) (h : MdE 2 L H w v n F g V G k) (hn : n ≤ 1048576) (hc : ∀ i, i < n → (F i).c ≤ 1048576) (hk1 : 1 ≤ k) (hsm : k + (sm (mks 2 F) n : Int) ≤ 90000000) :
    Calls Try.prog 55 #[v, .int .i64 k] w fun e w' => e = .returned (.int .i64 (k + (sm (mks 2 F) n : Int))) ∧ Kb 0 w w' := by
  obtain ⟨p, cap, rfl, h2⟩ := h.sl
  have hnI : (n : Int) ≤ 1048576 := by omega
  have HH : Hid ((0 < n → p = some ⟨g, 0, none⟩ ∧ n ≤ cap) ∧ Cs 2 w g n (fun j => hml 2 (k + (sm (mks 2 F) j : Int)) ++ [V j]) ∧ (∀ i, i < n → OwnR w (V i) (G i) (F i).c (fun j => .int .u8 ((k + (sm (mks 2 F) i : Int) + ((2 - 1 : Nat) : Int) + (j : Int)) % 256))) ∧ (∀ i, i < n → (F i).c ≤ 1048576) ∧ k + (sm (mks 2 F) n : Int) ≤ 90000000) := (⟨h2, h.cs, h.md, hc, hsm⟩ : _ ∧ _)
  clear h2 h hc hsm
  go_enter Try.func55, Try.ntmps55
  go_wp2_with fail
  go_loopw [1, 5] (fun s1 s5 wr => ∃ i : Nat, s5 = .int .i64 (i : Int) ∧ s1 = .int .i64 (k + (sm (mks 2 F) i : Int)) ∧ i ≤ n ∧ Hid (Kb 0 w wr)) (fun _ s5 _ => n - (intOf s5).toNat)
  case atStart => exact ⟨0, rfl, by simp [sm], Nat.zero_le _, Kb.refl _ _⟩
  case round =>
    obtain ⟨i, rfl, rfl, hin, HI⟩ := hrel
    have kw := (show Kb 0 w wr from HI)
    obtain ⟨hp, hcs, hmd, hcc, hsm⟩ := (show _ ∧ _ ∧ _ ∧ _ ∧ _ from HH)
    rcases Nat.lt_or_ge i n with hi | hi
    · have hiI : (i : Int) < (n : Int) := by omega
      obtain ⟨rfl, hcap⟩ := hp (by omega)
      have hmo := sm_mono (mks 2 F) (show i + 1 ≤ n from hi)
      have hsu : sm (mks 2 F) (i + 1) = sm (mks 2 F) i + (2 - 1 + (F i).c) := rfl
      have hci := hcc i hi
      have hm := hmd i hi
      obtain ⟨X, hX⟩ : ∃ X : Int, X = k + (sm (mks 2 F) i : Int) := ⟨_, rfl⟩
      rw [← hX] at hm
      have hx : X ≤ 90000000 := by omega
      have hx0 : 1 ≤ X := by omega
      have hx2 : ¬ (X + 1) + ((F i).c : Int) < 0 := by omega
      have d0 : wr.cell? ⟨g, i * 2, none⟩ = some (.int .i64 X) := by have := hcs i hi 0 (by omega); dsimp only at this; rw [← hX] at this; exact kw.cell this
      have d1 : wr.cell? ⟨g, i * 2 + 1, none⟩ = some (V i) := by have := hcs i hi 1 (by omega); dsimp only at this; rw [← hX] at this; exact kw.cell this
      have hne : (X != X) = false := by simp
      have e : X + ((2 - 1 : Nat) : Int) = (X + 1) := by rfl
      rw [e] at hm
      have hm2 : OwnR wr (V i) (G i) (F i).c (fun j => .int .u8 (((X + 1) + (j : Int)) % 256)) := hm.kb (fun hne => kw.block _ (Nat.zero_le _) (lt_of_cell (hm.cell 0 (by omega))))
      have HMV := held_byts wr (X + 1) hm2.row hci (by omega) (by omega)
      obtain ⟨pv, cv, hV, _⟩ := hm.sl
      rw [hV] at d1 HMV
      have HKN : Hid ((X + 1) + ((F i).c : Int) = k + (sm (mks 2 F) (i + 1) : Int)) := (by rw [hsu, hX]; push_cast; omega : (X + 1) + ((F i).c : Int) = k + (sm (mks 2 F) (i + 1) : Int))
      rw [← hX]
      clear hp hcs hmd hcc hsm hmo hsu hX hm hm2 hV HH hcap e
      go_wp2_with fail
      refine HMV.mono ?_
      rintro e w6 ⟨rfl, d6, hw6⟩
      have HN : Hid (Kb 0 w w6) := by rw [hw6]; exact kw.drewN d6
      clear hw6 kw HMV d0 d1 HI
      go_wp2_with fail
      go_roundw
      case rel => exact ⟨i + 1, by go_num, by rw [← (show _ = _ from HKN)], by omega, HN⟩
      case measure => simp [intOf]; omega
    · obtain rfl : i = n := by omega
      have hI' : ¬ (i : Int) < (i : Int) := by omega
      clear HH hi hin kw hp hcs hmd hcc hsm
      go_wp2_with fail
      go_ret
      exact ⟨rfl, HI⟩
end Go.Proofs.Ytaggciimacanbaa.Fo
