import Derived.Deep.RegionHeldLaw
import Derived.Test.YtiojjejphdhpeaaMSua
import Derived.Test.YtiojjejphdhpeaaMGbb
namespace Go.Proofs.Ytiojjejphdhpeaa.Fo
open Go.ChangeShapes Go.WideShapes Go.ChangeAt Go.RowKit
set_option linter.unusedVariables false
set_option maxRecDepth 100000
/-- bytes, with what may stand ahead of them: whether it is a Sync, which block -/
structure Ed where
  s : Bool
  b : Int
  c : Nat
  A : Nat → Int
instance : Inhabited Ed := ⟨⟨false, 0, 0, fun _ => 0⟩⟩
/-- what stands ahead of the bytes, in rows of elements of K cells -/
def hdl : Nat → Ed → List Value
  | 1, _ => []
  | 2, e => [.int .i64 e.b]
  | 3, e => [.bool e.s, .int .i64 e.b]
  | _, _ => []
def ub (A : Nat → Int) : Nat → Value := fun i => .int .u8 (A i)
/-- an element in its place -/
def ElC (K b : Nat) (W : World) (p : Addr) (e : Ed) : Prop := ∃ v, W.cell? p = (hdl K e ++ [v])[0]? ∧ (∀ t, 0 < t → t < K → W.cell? ⟨p.block, p.off + t, none⟩ = (hdl K e ++ [v])[t]?) ∧ RowB b W v e.c (ub e.A)
theorem hd_len {K : Nat} (hK : K = 1 ∨ K = 2 ∨ K = 3) (e : Ed) (v : Value) : (hdl K e ++ [v]).length = K := by
  rcases hK with rfl | rfl | rfl <;> rfl
theorem keepA {a w : World} {c : Nat} (h : Kb c a w) {b : Addr} {o : Option Value} (hb : c ≤ b.block) (hs : o.isSome = true) (hc : a.cell? b = o) : w.cell? b = o := by
  cases o with
  | none => cases hs
  | some v => exact h.cellA hb hc
theorem hd_some {K : Nat} (hK : K = 1 ∨ K = 2 ∨ K = 3) (e : Ed) (v : Value) {t : Nat} (ht : t < K) : ((hdl K e ++ [v])[t]?).isSome = true := by
  rw [List.getElem?_eq_getElem (by rw [hd_len hK]; exact ht)]; rfl
theorem ElC.keep {K b : Nat} {W W' : World} {p : Addr} {e : Ed} (hK : K = 1 ∨ K = 2 ∨ K = 3) (h : ElC K b W p e) (hb : b ≤ p.block) (k : Kb b W W') : ElC K b W' p e := by
  obtain ⟨v, h1, h2, h3⟩ := h
  exact ⟨v, keepA k hb (hd_some hK e v (by omega)) h1, fun t t0 t1 => keepA k hb (hd_some hK e v t1) (h2 t t0 t1), h3.keep k⟩
theorem ElC.mono {K b c : Nat} {W : World} {p : Addr} {e : Ed} (h : ElC K b W p e) (hc : c ≤ b) : ElC K c W p e := by
  obtain ⟨v, h1, h2, h3⟩ := h
  exact ⟨v, h1, h2, h3.mono hc⟩
/-- a row of elements, none of its blocks before b -/
def RowE (K b : Nat) (W : World) (v : Value) (n : Nat) (F : Nat → Ed) : Prop :=
  ∃ pa cap, v = .slice pa n cap ∧ (0 < n → ∃ a : Addr, pa = some a ∧ n ≤ cap ∧ b ≤ a.block ∧ ∀ i, i < n → ElC K b W (a.add (i * K)) (F i))
theorem RowE.keep {K b : Nat} {W W' : World} {v : Value} {n : Nat} {F : Nat → Ed} (hK : K = 1 ∨ K = 2 ∨ K = 3) (h : RowE K b W v n F) (k : Kb b W W') : RowE K b W' v n F := by
  obtain ⟨pa, cap, h1, h2⟩ := h
  refine ⟨pa, cap, h1, fun hn => ?_⟩
  obtain ⟨a, e1, e2, e0, e3⟩ := h2 hn
  exact ⟨a, e1, e2, e0, fun i hi => (e3 i hi).keep hK (by rw [add_block]; exact e0) k⟩
theorem RowE.mono {K b c : Nat} {W : World} {v : Value} {n : Nat} {F : Nat → Ed} (h : RowE K b W v n F) (hc : c ≤ b) : RowE K c W v n F := by
  obtain ⟨pa, cap, h1, h2⟩ := h
  refine ⟨pa, cap, h1, fun hn => ?_⟩
  obtain ⟨a, e1, e2, e0, e3⟩ := h2 hn
  exact ⟨a, e1, e2, Nat.le_trans hc e0, fun i hi => (e3 i hi).mono hc⟩
/-- the cells of a row -/
def Cs (K : Nat) (W : World) (g n : Nat) (E : Nat → List Value) : Prop := ∀ j, j < n → ∀ t, t < K → W.cell? ⟨g, j * K + t, none⟩ = (E j)[t]?
theorem apart {K i j : Nat} (h : j ≠ i) {t : Nat} (ht : t < K) : j * K + t < i * K ∨ i * K + K ≤ j * K + t := by
  rcases Nat.lt_or_gt_of_ne h with q | q
  · left
    have : (j + 1) * K ≤ i * K := Nat.mul_le_mul_right K q
    rw [Nat.add_mul] at this; omega
  · right
    have : (i + 1) * K ≤ j * K := Nat.mul_le_mul_right K q
    rw [Nat.add_mul] at this; omega
theorem Cs.set {K : Nat} {W : World} {g n i : Nat} {E : Nat → List Value} (h : Cs K W g n E) (hi : i < n) (hE : ∀ j, j < n → (E j).length = K) {l : List Value} (hl : l.length ≤ K) : Cs K (setL W g (i * K) l) g n (fun j => if j = i then l ++ (E i).drop l.length else E j) := by
  intro j hj t ht
  dsimp only
  by_cases e : j = i
  · subst e
    rw [if_pos rfl]
    rcases Nat.lt_or_ge t l.length with q | q
    · rw [List.getElem?_append_left q]
      refine setL_at g l W (j * K) (fun u hu => ?_) t q
      rw [h j hj u (by omega), List.getElem?_eq_getElem (by rw [hE j hj]; omega)]
      exact ⟨_, rfl⟩
    · rw [List.getElem?_append_right q, List.getElem?_drop, show l.length + (t - l.length) = t by omega, setL_far g _ l W (j * K) (by omega)]
      exact h j hj t ht
  · rw [if_neg e, setL_far g _ l W (i * K) (by rcases apart e ht with q | q <;> omega)]
    exact h j hj t ht
theorem Cs.block {K : Nat} {W W' : World} {g n : Nat} {E : Nat → List Value} (h : Cs K W g n E) (hb : 0 < n → W'.heap[g]? = W.heap[g]?) : Cs K W' g n E := fun j hj t ht => (World.cell?_of_block (hb (by omega))).trans (h j hj t ht)
/-- elements in blocks of their own, between L and H -/
structure OwE (K L H : Nat) (W : World) (v : Value) (n : Nat) (F : Nat → Ed) (g : Nat) (V : Nat → Value) (G : Nat → Nat) : Prop where
  sl : ∃ p cap, v = .slice p n cap ∧ (0 < n → p = some ⟨g, 0, none⟩ ∧ n ≤ cap)
  bg : 0 < n → L ≤ g ∧ g < H
  cs : Cs K W g n (fun j => hdl K (F j) ++ [V j])
  fz : 0 < n → ∀ j, W.frozen? ⟨g, j, none⟩ = false
  ow : ∀ i, i < n → OwnR W (V i) (G i) (F i).c (ub (F i).A)
  lo : ∀ i, i < n → 0 < (F i).c → L ≤ G i ∧ G i < H ∧ G i ≠ g
  di : ∀ i j, i < n → j < n → i ≠ j → 0 < (F i).c → 0 < (F j).c → G i ≠ G j
theorem OwE.block {K L H : Nat} {W W' : World} {v : Value} {n : Nat} {F : Nat → Ed} {g : Nat} {V : Nat → Value} {G : Nat → Nat} (h : OwE K L H W v n F g V G) (hb : ∀ q, L ≤ q → q < H → W'.heap[q]? = W.heap[q]?) : OwE K L H W' v n F g V G := by
  refine ⟨h.sl, h.bg, h.cs.block (fun hn => hb g (h.bg hn).1 (h.bg hn).2), fun hn j => (World.frozen?_of_block (hb g (h.bg hn).1 (h.bg hn).2)).trans (h.fz hn j), fun i hi => ?_, h.lo, h.di⟩
  exact (h.ow i hi).kb (fun hc => hb _ (h.lo i hi (by omega)).1 (h.lo i hi (by omega)).2.1)
theorem OwE.wide {K L H L' H' : Nat} {W : World} {v : Value} {n : Nat} {F : Nat → Ed} {g : Nat} {V : Nat → Value} {G : Nat → Nat} (h : OwE K L H W v n F g V G) (hL : L' ≤ L) (hH : H ≤ H') : OwE K L' H' W v n F g V G :=
  ⟨h.sl, fun hn => ⟨Nat.le_trans hL (h.bg hn).1, Nat.lt_of_lt_of_le (h.bg hn).2 hH⟩, h.cs, h.fz, h.ow, fun i hi hc => ⟨Nat.le_trans hL (h.lo i hi hc).1, Nat.lt_of_lt_of_le (h.lo i hi hc).2.1 hH, (h.lo i hi hc).2.2⟩, h.di⟩
/-- such elements can be read -/
theorem OwE.rowE {K L H : Nat} {W : World} {v : Value} {n : Nat} {F : Nat → Ed} {g : Nat} {V : Nat → Value} {G : Nat → Nat} (hK : K = 1 ∨ K = 2 ∨ K = 3) (h : OwE K L H W v n F g V G) : RowE K L W v n F := by
  obtain ⟨p, cap, h1, h2⟩ := h.sl
  refine ⟨p, cap, h1, fun hn => ⟨⟨g, 0, none⟩, (h2 hn).1, (h2 hn).2, (h.bg hn).1, fun i hi => ⟨V i, ?_, fun t t0 t1 => ?_, ?_⟩⟩⟩
  · rw [addr0]
    have := h.cs i hi 0 (by omega)
    simpa using this
  · rw [addr0]
    exact h.cs i hi t t1
  · obtain ⟨p', c', e1, e2⟩ := (h.ow i hi).sl
    refine ⟨p', c', e1, fun hc => ?_⟩
    exact ⟨⟨G i, 0, none⟩, (e2 hc).1, (e2 hc).2, (h.lo i hi hc).1, fun j hj => by rw [addr0]; exact (h.ow i hi).cell j hj⟩
/-- what a marking writes ahead of the bytes -/
def hml : Nat → Int → List Value
  | 1, _ => []
  | 2, k => [.int .i64 k]
  | 3, k => [.bool (k % 3 == 0), .int .i64 (k + 1)]
  | _, _ => []
theorem hm_len {K : Nat} (hK : K = 1 ∨ K = 2 ∨ K = 3) (k : Int) : (hml K k).length = K - 1 := by
  rcases hK with rfl | rfl | rfl <;> rfl
/-- how many marks an element takes -/
def mks (K : Nat) (F : Nat → Ed) : Nat → Nat := fun i => K - 1 + (F i).c
theorem setL_tape (g : Nat) : ∀ (l : List Value) (W : World) (o : Nat), (setL W g o l).tape = W.tape
  | [], _, _ => rfl
  | v :: r, W, o => by unfold setL; exact setL_tape g r _ _
/-- such elements, marked from k on -/
structure MdE (K L H : Nat) (W : World) (v : Value) (n : Nat) (F : Nat → Ed) (g : Nat) (V : Nat → Value) (G : Nat → Nat) (k : Int) : Prop where
  sl : ∃ p cap, v = .slice p n cap ∧ (0 < n → p = some ⟨g, 0, none⟩ ∧ n ≤ cap)
  bg : 0 < n → L ≤ g ∧ g < H
  cs : Cs K W g n (fun j => hml K (k + (sm (mks K F) j : Int)) ++ [V j])
  md : ∀ i, i < n → OwnR W (V i) (G i) (F i).c (fun j => .int .u8 ((k + (sm (mks K F) i : Int) + ((K - 1 : Nat) : Int) + (j : Int)) % 256))
  lo : ∀ i, i < n → 0 < (F i).c → L ≤ G i ∧ G i < H
theorem MdE.block {K L H : Nat} {W W' : World} {v : Value} {n : Nat} {F : Nat → Ed} {g : Nat} {V : Nat → Value} {G : Nat → Nat} {k : Int} (h : MdE K L H W v n F g V G k) (hb : ∀ q, L ≤ q → q < H → W'.heap[q]? = W.heap[q]?) : MdE K L H W' v n F g V G k := by
  refine ⟨h.sl, h.bg, h.cs.block (fun hn => hb g (h.bg hn).1 (h.bg hn).2), fun i hi => ?_, h.lo⟩
  exact (h.md i hi).kb (fun hc => hb _ (h.lo i hi (by omega)).1 (h.lo i hi (by omega)).2)
/-- a marking under way: i elements are marked -/
structure GE (K L H : Nat) (W : World) (n : Nat) (F : Nat → Ed) (g : Nat) (V : Nat → Value) (G : Nat → Nat) (k : Int) (i : Nat) (wr : World) : Prop where
  kq : Kq (fun q => L ≤ q ∧ q < H) W wr
  cs : Cs K wr g n (fun j => if j < i then hml K (k + (sm (mks K F) j : Int)) ++ [V j] else hdl K (F j) ++ [V j])
  fz : ∀ j, wr.frozen? ⟨g, j, none⟩ = false
  ow : ∀ j, i ≤ j → j < n → OwnR wr (V j) (G j) (F j).c (ub (F j).A)
  md : ∀ j, j < i → OwnR wr (V j) (G j) (F j).c (fun t => .int .u8 ((k + (sm (mks K F) j : Int) + ((K - 1 : Nat) : Int) + (t : Int)) % 256))
theorem GE.step {K L H : Nat} {W : World} {n : Nat} {F : Nat → Ed} {g : Nat} {V : Nat → Value} {G : Nat → Nat} {k : Int} {i : Nat} {wr w6 : World} (hK : K = 1 ∨ K = 2 ∨ K = 3) (h : GE K L H W n F g V G k i wr) (hi : i < n) (bg : L ≤ g ∧ g < H) (lo : ∀ i, i < n → 0 < (F i).c → L ≤ G i ∧ G i < H ∧ G i ≠ g) (di : ∀ i j, i < n → j < n → i ≠ j → 0 < (F i).c → 0 < (F j).c → G i ≠ G j)
    (kq6 : Kq (fun q => 0 < (F i).c ∧ q = G i) (setL wr g (i * K) (hml K (k + (sm (mks K F) i : Int)))) w6) (md6 : OwnR w6 (V i) (G i) (F i).c (fun t => .int .u8 ((k + (sm (mks K F) i : Int) + ((K - 1 : Nat) : Int) + (t : Int)) % 256))) : GE K L H W n F g V G k (i + 1) w6 := by
  obtain ⟨y, hy⟩ : ∃ y, y = setL wr g (i * K) (hml K (k + (sm (mks K F) i : Int))) := ⟨_, rfl⟩
  rw [← hy] at kq6
  have hys : y.heap.size = wr.heap.size := by rw [hy]; exact setL_size _ _ _ _
  have hyb : ∀ q, q ≠ g → y.heap[q]? = wr.heap[q]? := fun q hq => by rw [hy]; exact setL_block _ _ hq _ _ _
  have hgl : g < wr.heap.size := by
    have := h.cs i hi 0 (by omega)
    dsimp only at this
    rw [if_neg (by omega)] at this
    have hs := hd_some hK (F i) (V i) (t := 0) (by omega)
    cases e : (hdl K (F i) ++ [V i])[0]? with
    | none => rw [e] at hs; cases hs
    | some u => rw [e] at this; exact lt_of_cell this
  have hg6 : w6.heap[g]? = y.heap[g]? := kq6.block g (by omega) (fun e => (lo i hi e.1).2.2 e.2.symm)
  have bk : ∀ j, j < n → j ≠ i → 0 < (F j).c → G j < wr.heap.size → w6.heap[G j]? = wr.heap[G j]? := fun j hj hne hc hl => by
    rw [kq6.block (G j) (by omega) (fun e => di j i hj hi hne hc e.1 e.2), hyb _ (lo j hj hc).2.2]
  have hlen : ∀ j, j < n → (if j < i then hml K (k + (sm (mks K F) j : Int)) ++ [V j] else hdl K (F j) ++ [V j]).length = K := fun j _ => by
    split
    · rw [List.length_append, hm_len hK]; simp; omega
    · exact hd_len hK _ _
  refine ⟨⟨kq6.os.trans ((by rw [hy]; exact (setL_os _ _ _ _).1 : y.os = wr.os).trans h.kq.os), kq6.tape.trans ((by rw [hy]; exact setL_tape _ _ _ _ : y.tape = wr.tape).trans h.kq.tape), kq6.output.trans ((by rw [hy]; exact (setL_os _ _ _ _).2 : y.output = wr.output).trans h.kq.output), Nat.le_trans h.kq.size (Nat.le_trans (Nat.le_of_eq hys.symm) kq6.size), fun q hq hs => ?_⟩, ?_, fun j => ?_, fun j h1 h2 => ?_, fun j hj => ?_⟩
  · rw [kq6.block q (by have := h.kq.size; omega) (fun e => hs (e.2 ▸ ⟨(lo i hi e.1).1, (lo i hi e.1).2.1⟩)), hyb q (fun e => hs (e ▸ bg))]
    exact h.kq.block q hq hs
  · refine Cs.block (W := y) ?_ (fun _ => hg6)
    have hc := h.cs.set hi hlen (l := hml K (k + (sm (mks K F) i : Int))) (by rw [hm_len hK]; omega)
    rw [← hy] at hc
    intro j hj t ht
    rw [hc j hj t ht]
    dsimp only
    by_cases e : j = i
    · subst e
      rw [if_pos rfl, if_neg (by omega), if_pos (by omega), hm_len hK]
      congr 2
      rcases hK with rfl | rfl | rfl <;> rfl
    · rw [if_neg e]
      by_cases q : j < i
      · rw [if_pos q, if_pos (by omega)]
      · rw [if_neg q, if_neg (by omega)]
  · rw [World.frozen?_of_block hg6, hy, setL_fz]; exact h.fz j
  · exact (h.ow j (by omega) h2).kb (fun hc => bk j h2 (by omega) (by omega) (lt_of_cell ((h.ow j (by omega) h2).cell 0 (by omega))))
  · by_cases e : j = i
    · subst e; exact md6
    · exact (h.md j (by omega)).kb (fun hc => bk j (by omega) e (by omega) (lt_of_cell ((h.md j (by omega)).cell 0 (by omega))))
end Go.Proofs.Ytiojjejphdhpeaa.Fo

namespace Go.Proofs.Ytiojjejphdhpeaa.Fo
open Go.ChangeShapes Go.WideShapes Go.ChangeAt Go.RowKit
set_option linter.unusedVariables false
set_option maxRecDepth 100000
set_option maxHeartbeats 4000000 in
theorem sz_byts {va : Value} {n : Nat} {A : Nat → Value} (w : World) (l : Int) (ha : RowB 0 w va n A) (hn : (n : Int) < 140737488355328) (hl0 : 0 ≤ l) (hl : l ≤ 1048576) :
    Calls Try.prog 78 #[va, .int .i64 l] w (Szd n l w) := by
  obtain ⟨pa, ca, rfl, -⟩ := ha
  go_enter Try.func78, Try.ntmps78
  rcases Int.lt_or_le (l - n) 0 with h | h
  · go_wp2_with fail
    go_ret
    exact ⟨-1, rfl, by omega, by omega, by omega, Kb.refl _ _⟩
  · have h' : ¬ (l - n < 0) := by omega
    go_wp2_with fail
    go_ret
    exact ⟨_, rfl, by omega, by omega, by omega, Kb.refl _ _⟩
theorem eq_bytsK {va vb : Value} {n : Nat} {A : Nat → Int} (w : World) (ha : RowB 0 w va n (ub A)) (hb : RowB 0 w vb n (ub A)) (hn : n ≤ 1048576) :
    Calls Try.prog 15 #[va, vb] w fun e w' => e = .returned (.bool true) ∧ Kb 0 w w' := (eq_byts w ha.row hb.row hn).mono (fun e w' ⟨h1, h2⟩ => ⟨h1, kb_drewN h2⟩)
set_option maxHeartbeats 4000000 in
theorem sz_row1 {va : Value} {n : Nat} {F : Nat → Ed} (w : World) (l : Int) (ha : RowE 1 0 w va n F) (hn : (n : Int) < 140737488355328) (hF : ∀ i, i < n → ((F i).c : Int) < 140737488355328) (hl0 : 0 ≤ l) (hl : l ≤ 1048576) :
    Calls Try.prog 41 #[va, .int .i64 l] w (Szd (n + sm (fun i => (F i).c) n) l w) := by
  obtain ⟨pa, ca, rfl, ha2⟩ := ha
  have HA : Hid ((0 < n → ∃ a : Addr, pa = some a ∧ n ≤ ca ∧ 0 ≤ a.block ∧ ∀ i, i < n → ElC 1 0 w (a.add (i * 1)) (F i)) ∧ ∀ i, i < n → ((F i).c : Int) < 140737488355328) := (⟨ha2, hF⟩ : _ ∧ _)
  clear ha2 hF
  go_enter Try.func41, Try.ntmps41
  rcases Int.lt_or_le (l - n) 0 with h | h
  · clear HA
    go_wp2_with fail
    go_ret
    exact ⟨-1, rfl, fun f => by omega, by omega, by omega, Kb.refl _ _⟩
  · have h' : ¬ (l - n < 0) := by omega
    go_wp2_with fail
    go_loopw [1, 5] (fun s1 s5 wr => ∃ (i : Nat) (x : Int), s1 = .int .i64 x ∧ s5 = .int .i64 (i : Int) ∧ i ≤ n ∧ 0 ≤ x ∧ x ≤ l ∧ Hid (x + (n : Int) + (sm (fun i => (F i).c) i : Int) ≤ l ∧ Kb 0 w wr)) (fun _ s5 _ => n - (intOf s5).toNat)
    case atStart => exact ⟨0, l - n, rfl, rfl, Nat.zero_le _, by omega, by omega, (⟨by show l - n + n + ((0 : Nat) : Int) ≤ l; omega, Kb.refl _ _⟩ : _ ∧ _)⟩
    case round =>
      obtain ⟨i, x, rfl, rfl, hin, hx0, hx1, HX⟩ := hrel
      rcases Nat.lt_or_ge i n with hi | hi
      · have hA := (show (0 < n → ∃ a : Addr, pa = some a ∧ n ≤ ca ∧ 0 ≤ a.block ∧ ∀ i, i < n → ElC 1 0 w (a.add (i * 1)) (F i)) ∧ ∀ i, i < n → ((F i).c : Int) < 140737488355328 from HA)
        have hX := (show x + (n : Int) + (sm (fun i => (F i).c) i : Int) ≤ l ∧ Kb 0 w wr from HX)
        obtain ⟨a, rfl, hca, -, hra⟩ := hA.1 (by omega)
        obtain ⟨v, h0, ht, hr⟩ := (hra i hi).keep (.inl rfl) (Nat.zero_le _) hX.2
        have hX3 := hA.2 i hi
        obtain ⟨p0, c0, rfl, -⟩ := id hr
        have HS : Hid (Calls Try.prog 78 #[.slice p0 (F i).c c0, .int .i64 x] wr (Szd (F i).c x wr)) := sz_byts wr x hr hX3 hx0 (by omega)
        have d0 : wr.cell? (a.add i) = some (.slice p0 (F i).c c0) := by have := h0; rw [Nat.mul_one] at this; exact this
        have hiI : (i : Int) < (n : Int) := by omega
        clear hA hX hra HA hin h0 ht hr hX3
        go_wp2_with fail
        refine (show Calls Try.prog 78 #[.slice p0 (F i).c c0, .int .i64 x] wr (Szd (F i).c x wr) from HS).mono ?_
        rintro e w6 ⟨r, rfl, hs, hm1, hr1, hb6⟩
        have hX := (show x + (n : Int) + (sm (fun i => (F i).c) i : Int) ≤ l ∧ Kb 0 w wr from HX)
        have HB6 : Hid ((0 ≤ r → r + (n : Int) + (sm (fun i => (F i).c) (i + 1) : Int) ≤ l) ∧ Kb 0 w w6) := (⟨fun h => by
          have := hs h
          have := hX.1
          show r + (n : Int) + ((sm (fun i => (F i).c) i + (F i).c : Nat) : Int) ≤ l
          omega, hX.2.trans hb6⟩ : _ ∧ _)
        clear HS HX hX hb6 hs d0
        rcases Int.lt_or_le r 0 with hr0 | hr0
        · go_wp2_with fail
          go_ret
          exact ⟨-1, rfl, fun f => by omega, by omega, by omega, HB6.2⟩
        · have hr0' : ¬ (r < 0) := by omega
          have hr2 : r ≤ l := by omega
          have hnI : (n : Int) ≤ 1048576 := by omega
          clear hn h h' hm1 hx0 hx1 hr1
          go_wp2_with fail
          go_roundw
          case rel => exact ⟨i + 1, r, rfl, by go_num, by omega, hr0, hr2, (⟨HB6.1 hr0, HB6.2⟩ : _ ∧ _)⟩
          case measure => simp [intOf]; omega
      · obtain rfl : i = n := by omega
        clear HA
        go_wp2_with fail
        go_ret
        have hX := (show x + (i : Int) + (sm (fun i => (F i).c) i : Int) ≤ l ∧ Kb 0 w wr from HX)
        exact ⟨x, rfl, fun _ => by have := hX.1; omega, by omega, hx1, hX.2⟩
set_option maxHeartbeats 4000000 in
theorem sz_el2 {f : Ed} {vc : Value} {z : Nat} (w : World) (l : Int) (g0 : ∀ W (l : Int), Kb 0 w W → 0 ≤ l → l ≤ 1048576 → Calls Try.prog 78 #[vc, .int .i64 l] W (Szd z l W)) (hl0 : 0 ≤ l) (hl : l ≤ 1048576) :
    Calls Try.prog 79 #[.agg #[.int .i64 f.b, vc], .int .i64 l] w (Szd z l w) := by
  have G0 : Hid (∀ W (l : Int), Kb 0 w W → 0 ≤ l → l ≤ 1048576 → Calls Try.prog 78 #[vc, .int .i64 l] W (Szd z l W)) := g0
  clear g0
  go_enter Try.func79, Try.ntmps79
  go_wp2_with fail
  refine ((show ∀ W (l : Int), Kb 0 w W → 0 ≤ l → l ≤ 1048576 → Calls Try.prog 78 #[vc, .int .i64 l] W (Szd z l W) from G0) _ l (kb_alloc _ _ _) hl0 hl).mono ?_
  rintro e w1 ⟨r, rfl, s1, m1, t1, k1⟩
  have HK : Hid (Kb 0 w w1) := (kb_alloc _ _ _).trans k1
  clear k1 G0
  rcases Int.lt_or_le r 0 with c | c
  · go_wp2_with fail
    go_ret
    exact ⟨-1, rfl, fun h => by omega, by omega, by omega, HK⟩
  · have c' : ¬ r < 0 := by omega
    go_wp2_with fail
    go_ret
    exact ⟨r, rfl, s1, by omega, t1, HK⟩
set_option maxHeartbeats 4000000 in
theorem sz_row2 {va : Value} {n : Nat} {F : Nat → Ed} (w : World) (l : Int) (ha : RowE 2 0 w va n F) (hn : (n : Int) < 140737488355328) (hF : ∀ i, i < n → ((F i).c : Int) < 140737488355328) (hl0 : 0 ≤ l) (hl : l ≤ 1048576) :
    Calls Try.prog 42 #[va, .int .i64 l] w (Szd (n + sm (fun i => (F i).c) n) l w) := by
  obtain ⟨pa, ca, rfl, ha2⟩ := ha
  have HA : Hid ((0 < n → ∃ a : Addr, pa = some a ∧ n ≤ ca ∧ 0 ≤ a.block ∧ ∀ i, i < n → ElC 2 0 w (a.add (i * 2)) (F i)) ∧ ∀ i, i < n → ((F i).c : Int) < 140737488355328) := (⟨ha2, hF⟩ : _ ∧ _)
  clear ha2 hF
  go_enter Try.func42, Try.ntmps42
  rcases Int.lt_or_le (l - n) 0 with h | h
  · clear HA
    go_wp2_with fail
    go_ret
    exact ⟨-1, rfl, fun f => by omega, by omega, by omega, Kb.refl _ _⟩
  · have h' : ¬ (l - n < 0) := by omega
    go_wp2_with fail
    go_loopw [1, 5] (fun s1 s5 wr => ∃ (i : Nat) (x : Int), s1 = .int .i64 x ∧ s5 = .int .i64 (i : Int) ∧ i ≤ n ∧ 0 ≤ x ∧ x ≤ l ∧ Hid (x + (n : Int) + (sm (fun i => (F i).c) i : Int) ≤ l ∧ Kb 0 w wr)) (fun _ s5 _ => n - (intOf s5).toNat)
    case atStart => exact ⟨0, l - n, rfl, rfl, Nat.zero_le _, by omega, by omega, (⟨by show l - n + n + ((0 : Nat) : Int) ≤ l; omega, Kb.refl _ _⟩ : _ ∧ _)⟩
    case round =>
      obtain ⟨i, x, rfl, rfl, hin, hx0, hx1, HX⟩ := hrel
      rcases Nat.lt_or_ge i n with hi | hi
      · have hA := (show (0 < n → ∃ a : Addr, pa = some a ∧ n ≤ ca ∧ 0 ≤ a.block ∧ ∀ i, i < n → ElC 2 0 w (a.add (i * 2)) (F i)) ∧ ∀ i, i < n → ((F i).c : Int) < 140737488355328 from HA)
        have hX := (show x + (n : Int) + (sm (fun i => (F i).c) i : Int) ≤ l ∧ Kb 0 w wr from HX)
        obtain ⟨a, rfl, hca, -, hra⟩ := hA.1 (by omega)
        obtain ⟨v, h0, ht, hr⟩ := (hra i hi).keep (.inr (.inl rfl)) (Nat.zero_le _) hX.2
        have hX3 := hA.2 i hi
        obtain ⟨p0, c0, rfl, -⟩ := id hr
        have HS : Hid (Calls Try.prog 79 #[.agg #[.int .i64 (F i).b, .slice p0 (F i).c c0], .int .i64 x] wr (Szd (F i).c x wr)) := sz_el2 wr x (fun W l k q0 q1 => sz_byts W l (hr.keep k) hX3 q0 q1) hx0 (by omega)
        have d0 : wr.cell? (a.add (i * 2)) = some (.int .i64 (F i).b) := h0
        have d1 : wr.cell? ⟨(a.add (i * 2)).block, (a.add (i * 2)).off + 1, none⟩ = some (.slice p0 (F i).c c0) := ht 1 (by omega) (by omega)
        have hiI : (i : Int) < (n : Int) := by omega
        clear hA hX hra HA hin h0 ht hr hX3
        go_wp2_with fail
        refine (show Calls Try.prog 79 #[.agg #[.int .i64 (F i).b, .slice p0 (F i).c c0], .int .i64 x] wr (Szd (F i).c x wr) from HS).mono ?_
        rintro e w6 ⟨r, rfl, hs, hm1, hr1, hb6⟩
        have hX := (show x + (n : Int) + (sm (fun i => (F i).c) i : Int) ≤ l ∧ Kb 0 w wr from HX)
        have HB6 : Hid ((0 ≤ r → r + (n : Int) + (sm (fun i => (F i).c) (i + 1) : Int) ≤ l) ∧ Kb 0 w w6) := (⟨fun h => by
          have := hs h
          have := hX.1
          show r + (n : Int) + ((sm (fun i => (F i).c) i + (F i).c : Nat) : Int) ≤ l
          omega, hX.2.trans hb6⟩ : _ ∧ _)
        clear HS HX hX hb6 hs d0 d1
        rcases Int.lt_or_le r 0 with hr0 | hr0
        · go_wp2_with fail
          go_ret
          exact ⟨-1, rfl, fun f => by omega, by omega, by omega, HB6.2⟩
        · have hr0' : ¬ (r < 0) := by omega
          have hr2 : r ≤ l := by omega
          have hnI : (n : Int) ≤ 1048576 := by omega
          clear hn h h' hm1 hx0 hx1 hr1
          go_wp2_with fail
          go_roundw
          case rel => exact ⟨i + 1, r, rfl, by go_num, by omega, hr0, hr2, (⟨HB6.1 hr0, HB6.2⟩ : _ ∧ _)⟩
          case measure => simp [intOf]; omega
      · obtain rfl : i = n := by omega
        clear HA
        go_wp2_with fail
        go_ret
        have hX := (show x + (i : Int) + (sm (fun i => (F i).c) i : Int) ≤ l ∧ Kb 0 w wr from HX)
        exact ⟨x, rfl, fun _ => by have := hX.1; omega, by omega, hx1, hX.2⟩
end Go.Proofs.Ytiojjejphdhpeaa.Fo

namespace Go.Proofs.Ytiojjejphdhpeaa.Fo
open Go.ChangeShapes Go.WideShapes Go.ChangeAt Go.RowKit
set_option linter.unusedVariables false
set_option maxRecDepth 100000
set_option maxHeartbeats 8000000 in
theorem eq_row1 {va vb : Value} {n : Nat} {F : Nat → Ed} (w : World) (ha : RowE 1 0 w va n F) (hb : RowE 1 0 w vb n F) (hn : n ≤ 1048576) (hF : ∀ i, i < n → (F i).c ≤ 1048576) :
    Calls Try.prog 50 #[va, vb] w fun e w' => e = .returned (.bool true) ∧ Kb 0 w w' := by
  obtain ⟨pa, ca, rfl, ha2⟩ := ha
  obtain ⟨pb, cb, rfl, hb2⟩ := hb
  have HA : Hid ((0 < n → ∃ a : Addr, pa = some a ∧ n ≤ ca ∧ 0 ≤ a.block ∧ ∀ i, i < n → ElC 1 0 w (a.add (i * 1)) (F i)) ∧ (0 < n → ∃ a : Addr, pb = some a ∧ n ≤ cb ∧ 0 ≤ a.block ∧ ∀ i, i < n → ElC 1 0 w (a.add (i * 1)) (F i)) ∧ (∀ i, i < n → (F i).c ≤ 1048576)) := (⟨ha2, hb2, hF⟩ : _ ∧ _)
  have hnI : (n : Int) ≤ 1048576 := by omega
  clear ha2 hb2 hn hF
  go_enter Try.func50, Try.ntmps50
  go_wp2_with fail
  go_loopw [5] (fun s5 wr => ∃ i : Nat, s5 = .int .i64 (i : Int) ∧ i ≤ n ∧ Hid (Kb 0 w wr)) (fun s5 _ => n - (intOf s5).toNat)
  case atStart => exact ⟨0, rfl, Nat.zero_le _, Kb.refl _ _⟩
  case round =>
    obtain ⟨i, rfl, hin, HB⟩ := hrel
    rcases Nat.lt_or_ge i n with hi | hi
    · have hA := (show (0 < n → ∃ a : Addr, pa = some a ∧ n ≤ ca ∧ 0 ≤ a.block ∧ ∀ i, i < n → ElC 1 0 w (a.add (i * 1)) (F i)) ∧ (0 < n → ∃ a : Addr, pb = some a ∧ n ≤ cb ∧ 0 ≤ a.block ∧ ∀ i, i < n → ElC 1 0 w (a.add (i * 1)) (F i)) ∧ (∀ i, i < n → (F i).c ≤ 1048576) from HA)
      obtain ⟨qa, rfl, hca, -, hra⟩ := hA.1 (by omega)
      obtain ⟨qb, rfl, hcb, -, hrb⟩ := hA.2.1 (by omega)
      have hiI : (i : Int) < (n : Int) := by omega
      obtain ⟨vc, x0, xt, h1⟩ := (hra i hi).keep (.inl rfl) (Nat.zero_le _) (show Kb 0 w wr from HB)
      obtain ⟨uc, z0, zt, h2⟩ := (hrb i hi).keep (.inl rfl) (Nat.zero_le _) (show Kb 0 w wr from HB)
      have y1 := hA.2.2 i hi
      obtain ⟨p0, c0, rfl, -⟩ := id h1
      obtain ⟨p1, c1, rfl, -⟩ := id h2
      have heq0 : ∀ W', Kb 0 wr W' → Calls Try.prog 15 #[.slice p0 (F i).c c0, .slice p1 (F i).c c1] W' fun e w' => e = .returned (.bool true) ∧ Kb 0 W' w' := fun W' k => eq_bytsK W' (h1.keep k) (h2.keep k) y1
      have heq : ∀ W', W'.heap = wr.heap → W'.os = wr.os → W'.output = wr.output → Calls Try.prog 15 #[.slice p0 (F i).c c0, .slice p1 (F i).c c1] W' fun e w' => e = .returned (.bool true) ∧ Kb 0 wr w' := fun W' h0 h1 h2 => by
        have kk : Kb 0 wr W' := ⟨h1, h2, by rw [h0]; exact Nat.le_refl _, fun k _ _ => by rw [h0]⟩
        refine (heq0 W' kk).mono ?_
        rintro e w' ⟨rfl, k⟩
        exact ⟨rfl, kk.trans k⟩
      have a0 : wr.cell? (qa.add i) = some (.slice p0 (F i).c c0) := by have := x0; rw [Nat.mul_one] at this; exact this
      have b0 : wr.cell? (qb.add i) = some (.slice p1 (F i).c c1) := by have := z0; rw [Nat.mul_one] at this; exact this
      clear hra hrb hA HA h1 h2 y1 x0 xt z0 zt heq0
      generalize (F i).c = fc at *
      have HKEEP : Hid (∀ (W' : World), Kb 0 wr W' → W'.cell? (qa.add i) = some (.slice p0 fc c0) ∧ W'.cell? (qb.add i) = some (.slice p1 fc c1)) := by
        show ∀ (W' : World), _
        intro W' k
        exact ⟨k.cell a0, k.cell b0⟩
      have HEQ : Hid (∀ W', W'.heap = wr.heap → W'.os = wr.os → W'.output = wr.output → Calls Try.prog 15 #[.slice p0 fc c0, .slice p1 fc c1] W' fun e w' => e = .returned (.bool true) ∧ Kb 0 wr w') := heq
      clear hin heq
      go_wp2_with fail
      go_region_held_law (fun W' => W'.cell? (qa.add i) = some (.slice p0 fc c0) ∧ W'.cell? (qb.add i) = some (.slice p1 fc c1)) (first | exact ⟨a0, b0⟩ | exact (show ∀ (W' : World), _ from HKEEP) _ k5)
        ((go_at_call 15; refine ((show ∀ W', W'.heap = wr.heap → W'.os = wr.os → W'.output = wr.output → Calls Try.prog 15 #[.slice p0 fc c0, .slice p1 fc c1] W' fun e w' => e = .returned (.bool true) ∧ Kb 0 wr w' from HEQ) _ (by exact rfl) (by exact rfl) (by exact rfl)).mono ?_; rintro e w5 ⟨rfl, k5⟩))
      all_goals
        have HB5 : Hid (Kb 0 w w5) := (show Kb 0 w wr from HB).trans k5
        clear HB HKEEP HEQ k5 a0 b0
        go_wp2_with fail
        go_roundw
        case rel => exact ⟨i + 1, by go_num, by omega, HB5⟩
        case measure => simp [intOf]; omega
    · obtain rfl : i = n := by omega
      clear HA
      go_wp2_with fail
      go_ret
      exact ⟨rfl, HB⟩
set_option maxHeartbeats 8000000 in
theorem eq_el2 {f : Ed} {vc uc : Value} (w : World)
    (g0 : ∀ W', Kb 0 w W' → Calls Try.prog 15 #[vc, uc] W' fun e w' => e = .returned (.bool true) ∧ Kb 0 W' w') :
    Calls Try.prog 85 #[.agg #[.int .i64 f.b, vc], .agg #[.int .i64 f.b, uc]] w fun e w' => e = .returned (.bool true) ∧ Kb 0 w w' := by
  have G0 : Hid (∀ W', Kb 0 w W' → Calls Try.prog 15 #[vc, uc] W' fun e w' => e = .returned (.bool true) ∧ Kb 0 W' w') := g0
  clear g0
  generalize f.b = t at *
  have e1 : (t != t) = false := by simp
  obtain ⟨w2, hw2⟩ : ∃ w2, w2 = (w.alloc (.cells #[.int .i64 t, vc] 71)).alloc (.cells #[.int .i64 t, uc] 71) := ⟨_, rfl⟩
  have k2 : Kb 0 w w2 := by rw [hw2]; exact kb_alloc2 _ _ _ _
  have HK : Hid (Kb 0 w w2) := k2
  have HW : Hid (w2 = (w.alloc (.cells #[.int .i64 t, vc] 71)).alloc (.cells #[.int .i64 t, uc] 71)) := hw2
  clear hw2 k2
  go_enter Try.func85, Try.ntmps85
  go_wp2_with fail
  rw [← (show w2 = _ from HW)]
  clear HW
  refine ((show ∀ W', Kb 0 w W' → Calls Try.prog 15 #[vc, uc] W' fun e w' => e = .returned (.bool true) ∧ Kb 0 W' w' from G0) w2 HK).mono ?_
  rintro e x0 ⟨rfl, k0⟩
  have HL : Hid (Kb 0 w x0) := (show Kb 0 w w2 from HK).trans k0
  clear HK k0 G0
  go_wp2_with fail
  go_ret
  exact ⟨rfl, HL⟩
set_option maxHeartbeats 8000000 in
theorem eq_row2 {va vb : Value} {n : Nat} {F : Nat → Ed} (w : World) (ha : RowE 2 0 w va n F) (hb : RowE 2 0 w vb n F) (hn : n ≤ 1048576) (hF : ∀ i, i < n → (F i).c ≤ 1048576) :
    Calls Try.prog 51 #[va, vb] w fun e w' => e = .returned (.bool true) ∧ Kb 0 w w' := by
  obtain ⟨pa, ca, rfl, ha2⟩ := ha
  obtain ⟨pb, cb, rfl, hb2⟩ := hb
  have HA : Hid ((0 < n → ∃ a : Addr, pa = some a ∧ n ≤ ca ∧ 0 ≤ a.block ∧ ∀ i, i < n → ElC 2 0 w (a.add (i * 2)) (F i)) ∧ (0 < n → ∃ a : Addr, pb = some a ∧ n ≤ cb ∧ 0 ≤ a.block ∧ ∀ i, i < n → ElC 2 0 w (a.add (i * 2)) (F i)) ∧ (∀ i, i < n → (F i).c ≤ 1048576)) := (⟨ha2, hb2, hF⟩ : _ ∧ _)
  have hnI : (n : Int) ≤ 1048576 := by omega
  clear ha2 hb2 hn hF
  go_enter Try.func51, Try.ntmps51
  go_wp2_with fail
  go_loopw [5] (fun s5 wr => ∃ i : Nat, s5 = .int .i64 (i : Int) ∧ i ≤ n ∧ Hid (Kb 0 w wr)) (fun s5 _ => n - (intOf s5).toNat)
  case atStart => exact ⟨0, rfl, Nat.zero_le _, Kb.refl _ _⟩
  case round =>
    obtain ⟨i, rfl, hin, HB⟩ := hrel
    rcases Nat.lt_or_ge i n with hi | hi
    · have hA := (show (0 < n → ∃ a : Addr, pa = some a ∧ n ≤ ca ∧ 0 ≤ a.block ∧ ∀ i, i < n → ElC 2 0 w (a.add (i * 2)) (F i)) ∧ (0 < n → ∃ a : Addr, pb = some a ∧ n ≤ cb ∧ 0 ≤ a.block ∧ ∀ i, i < n → ElC 2 0 w (a.add (i * 2)) (F i)) ∧ (∀ i, i < n → (F i).c ≤ 1048576) from HA)
      obtain ⟨qa, rfl, hca, -, hra⟩ := hA.1 (by omega)
      obtain ⟨qb, rfl, hcb, -, hrb⟩ := hA.2.1 (by omega)
      have hiI : (i : Int) < (n : Int) := by omega
      obtain ⟨vc, x0, xt, h1⟩ := (hra i hi).keep (.inr (.inl rfl)) (Nat.zero_le _) (show Kb 0 w wr from HB)
      obtain ⟨uc, z0, zt, h2⟩ := (hrb i hi).keep (.inr (.inl rfl)) (Nat.zero_le _) (show Kb 0 w wr from HB)
      have y1 := hA.2.2 i hi
      obtain ⟨p0, c0, rfl, -⟩ := id h1
      obtain ⟨p1, c1, rfl, -⟩ := id h2
      have heq0 : ∀ W', Kb 0 wr W' → Calls Try.prog 85 #[.agg #[.int .i64 (F i).b, .slice p0 (F i).c c0], .agg #[.int .i64 (F i).b, .slice p1 (F i).c c1]] W' fun e w' => e = .returned (.bool true) ∧ Kb 0 W' w' := fun W' k => eq_el2 W' (fun W k2 => eq_bytsK W (h1.keep (k.trans k2)) (h2.keep (k.trans k2)) y1)
      have heq : ∀ W', W'.heap = wr.heap → W'.os = wr.os → W'.output = wr.output → Calls Try.prog 85 #[.agg #[.int .i64 (F i).b, .slice p0 (F i).c c0], .agg #[.int .i64 (F i).b, .slice p1 (F i).c c1]] W' fun e w' => e = .returned (.bool true) ∧ Kb 0 wr w' := fun W' h0 h1 h2 => by
        have kk : Kb 0 wr W' := ⟨h1, h2, by rw [h0]; exact Nat.le_refl _, fun k _ _ => by rw [h0]⟩
        refine (heq0 W' kk).mono ?_
        rintro e w' ⟨rfl, k⟩
        exact ⟨rfl, kk.trans k⟩
      have a0 : wr.cell? (qa.add (i * 2)) = some (.int .i64 (F i).b) := x0
      have a1 : wr.cell? ⟨(qa.add (i * 2)).block, (qa.add (i * 2)).off + 1, none⟩ = some (.slice p0 (F i).c c0) := xt 1 (by omega) (by omega)
      have b0 : wr.cell? (qb.add (i * 2)) = some (.int .i64 (F i).b) := z0
      have b1 : wr.cell? ⟨(qb.add (i * 2)).block, (qb.add (i * 2)).off + 1, none⟩ = some (.slice p1 (F i).c c1) := zt 1 (by omega) (by omega)
      clear hra hrb hA HA h1 h2 y1 x0 xt z0 zt heq0
      generalize (F i).c = fc at *
      generalize (F i).b = fb at *
      have HKEEP : Hid (∀ (W' : World), Kb 0 wr W' → W'.cell? (qa.add (i * 2)) = some (.int .i64 fb) ∧ W'.cell? ⟨(qa.add (i * 2)).block, (qa.add (i * 2)).off + 1, none⟩ = some (.slice p0 fc c0) ∧ W'.cell? (qb.add (i * 2)) = some (.int .i64 fb) ∧ W'.cell? ⟨(qb.add (i * 2)).block, (qb.add (i * 2)).off + 1, none⟩ = some (.slice p1 fc c1)) := by
        show ∀ (W' : World), _
        intro W' k
        exact ⟨k.cell a0, k.cell a1, k.cell b0, k.cell b1⟩
      have HEQ : Hid (∀ W', W'.heap = wr.heap → W'.os = wr.os → W'.output = wr.output → Calls Try.prog 85 #[.agg #[.int .i64 fb, .slice p0 fc c0], .agg #[.int .i64 fb, .slice p1 fc c1]] W' fun e w' => e = .returned (.bool true) ∧ Kb 0 wr w') := heq
      clear hin heq
      go_wp2_with fail
      go_region_held_law (fun W' => W'.cell? (qa.add (i * 2)) = some (.int .i64 fb) ∧ W'.cell? ⟨(qa.add (i * 2)).block, (qa.add (i * 2)).off + 1, none⟩ = some (.slice p0 fc c0) ∧ W'.cell? (qb.add (i * 2)) = some (.int .i64 fb) ∧ W'.cell? ⟨(qb.add (i * 2)).block, (qb.add (i * 2)).off + 1, none⟩ = some (.slice p1 fc c1)) (first | exact ⟨a0, a1, b0, b1⟩ | exact (show ∀ (W' : World), _ from HKEEP) _ k5)
        ((go_at_call 85; refine ((show ∀ W', W'.heap = wr.heap → W'.os = wr.os → W'.output = wr.output → Calls Try.prog 85 #[.agg #[.int .i64 fb, .slice p0 fc c0], .agg #[.int .i64 fb, .slice p1 fc c1]] W' fun e w' => e = .returned (.bool true) ∧ Kb 0 wr w' from HEQ) _ (by exact rfl) (by exact rfl) (by exact rfl)).mono ?_; rintro e w5 ⟨rfl, k5⟩))
      all_goals
        have HB5 : Hid (Kb 0 w w5) := (show Kb 0 w wr from HB).trans k5
        clear HB HKEEP HEQ k5 a0 a1 b0 b1
        go_wp2_with fail
        go_roundw
        case rel => exact ⟨i + 1, by go_num, by omega, HB5⟩
        case measure => simp [intOf]; omega
    · obtain rfl : i = n := by omega
      clear HA
      go_wp2_with fail
      go_ret
      exact ⟨rfl, HB⟩
end Go.Proofs.Ytiojjejphdhpeaa.Fo
