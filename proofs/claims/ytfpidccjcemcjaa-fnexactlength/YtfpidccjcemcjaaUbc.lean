import Derived.Test.YtfpidccjcemcjaaUbb
import Derived.Deep.RegionHeldLaw
namespace Go.Proofs.Ytfpidccjcemcjaa
open Go.ChangeShapes Go.WideShapes Go.ChangeAt Go.RowKit
set_option linter.unusedVariables false
set_option maxRecDepth 100000
theorem made_fz' (w : World) (c : Array Value) (e : TypeId) (j : Nat) : (w.alloc (.cells c e)).frozen? ⟨w.heap.size, j, none⟩ = false := World.frozen?_alloc_at _ _ _ _ rfl
set_option maxHeartbeats 4000000 in
theorem to_pairs {va : Value} {n : Nat} {F : Nat → Pv} (w : World) (ha : RowP w va n F) (hn : n ≤ 1048576) :
    Calls Try.prog 42 #[va] w fun e w' => ∃ v g, e = .returned v ∧ OwnP w' v g n F ∧ w.heap.size ≤ g ∧ g < w'.heap.size ∧ Kq w w' := by
  obtain ⟨pa, ca, rfl, ha2⟩ := ha
  have hnI : (n : Int) ≤ 1048576 := by omega
  have hmk := run_make (P := Try.prog) w 38 51 Try.t51 z11 Try.underlying38 (by kernel_rfl) (by kernel_rfl) .i64 .i64 (n : Int) (n : Int) (by omega) (Int.le_refl _) (by show (104 : Int) * (n : Int) ≤ _; omega) (by omega)
  rw [Int.toNat_natCast] at hmk
  obtain ⟨w1, hw1⟩ : ∃ w1, w1 = w.alloc (.cells (madeCells z11.cells (n * Try.t51.size)) 51) := ⟨_, rfl⟩
  rw [← hw1] at hmk
  have c1 : ∀ j c, j < n → c < 11 → w1.cell? ⟨w.heap.size, j * 11 + c, none⟩ = z11.cells[c]? := by intro j c hj hc; rw [hw1]; exact made11 w 51 n j c hj hc
  have f1 : ∀ j, w1.frozen? ⟨w.heap.size, j, none⟩ = false := by intro j; rw [hw1]; exact made_fz' _ _ _ _
  have b1 : Kq w w1 := by rw [hw1]; exact .of_grown (Grown.alloc (Grown.refl _) _ _)
  have l1 : w.heap.size < w1.heap.size := by rw [hw1]; simp
  have HI0 : Hid (Tp w1 w.heap.size n F 0 w1) := (⟨rfl, rfl, Nat.le_refl _, fun _ _ _ => rfl, fun i hi => by omega, fun j _ hj => ⟨c1 j 0 hj (by omega), c1 j 1 hj (by omega), c1 j 2 hj (by omega), c1 j 3 hj (by omega), c1 j 4 hj (by omega), c1 j 5 hj (by omega), c1 j 6 hj (by omega), c1 j 7 hj (by omega), c1 j 8 hj (by omega), c1 j 9 hj (by omega), c1 j 10 hj (by omega)⟩, f1, l1⟩ : Tp w1 w.heap.size n F 0 w1)
  have HA : Hid ((0 < n → ∃ a : Addr, pa = some a ∧ n ≤ ca ∧ ∀ i, i < n → Cp w (a.add (i * 11)) (F i)) ∧ Kq w w1) := (⟨ha2, b1⟩ : _ ∧ _)
  clear ha2 b1 c1 f1 hw1 hn l1
  obtain ⟨G, hG⟩ : ∃ G, G = w.heap.size := ⟨_, rfl⟩
  rw [← hG] at hmk HI0
  have HG : Hid (G = w.heap.size) := hG
  clear hG
  go_enter Try.func42, Try.ntmps42
  go_wp2_with fail
  go_loopw [4] (fun s4 wr => ∃ i : Nat, s4 = .int .i64 (i : Int) ∧ i ≤ n ∧ Hid (Tp w1 G n F i wr)) (fun s4 _ => n - (intOf s4).toNat)
  case atStart => exact ⟨0, rfl, Nat.zero_le _, HI0⟩
  case round =>
    clear HI0 hmk
    obtain ⟨i, rfl, hin, HI⟩ := hrel
    have hI := (show Tp w1 G n F i wr from HI)
    have hA := (show (0 < n → ∃ a : Addr, pa = some a ∧ n ≤ ca ∧ ∀ i, i < n → Cp w (a.add (i * 11)) (F i)) ∧ Kq w w1 from HA)
    have hBW : Kq w wr := by
      have hG := (show G = w.heap.size from HG)
      exact ⟨hI.os.trans hA.2.os, hI.output.trans hA.2.output, Nat.le_trans hA.2.size hI.size, fun b hb => (hI.block b (Nat.lt_of_lt_of_le hb hA.2.size) (by omega)).trans (hA.2.block b hb)⟩
    rcases Nat.lt_or_ge i n with hi | hi
    · have hiI : (i : Int) < (n : Int) := by omega
      obtain ⟨a, rfl, hca, hra⟩ := hA.1 (by omega)
      have hc := (hra i hi).kq hBW
      have HT : Hid (∀ w, Calls Try.prog 65 #[pv (F i)] w fun e w' => e = .returned (pv (F i)) ∧ Grown w w') := (fun w => to_pair (F i) w : ∀ w, _)
      have HS : Hid (∀ w6, Grown wr w6 → Cp w6 ⟨G, i * 11, none⟩ pz ∧ (∀ j, w6.frozen? ⟨G, j, none⟩ = false) ∧ Tp w1 G n F (i + 1) (s11 w6 G (i * 11) (F i))) := (fun w6 hb => by
        have h6 := hI.kq (.of_grown hb)
        exact ⟨h6.rest i (Nat.le_refl _) hi, h6.fz, h6.step hi⟩ : ∀ w6, _)
      obtain ⟨d0, d1, d2, d3, d4, d5, d6, d7, d8, d9, d10⟩ := hc
      clear hA HA hI HI hra hin HG hBW
      go_wp2_with fail
      refine ((show ∀ w, Calls Try.prog 65 #[pv (F i)] w fun e w' => e = .returned (pv (F i)) ∧ Grown w w' from HT) wr).mono ?_
      rintro e w6 ⟨rfl, hb6⟩
      obtain ⟨hc, hf, hT⟩ := (show ∀ w6, _ from HS) w6 hb6
      have HTT : Hid (Tp w1 G n F (i + 1) (s11 w6 G (i * 11) (F i))) := hT
      obtain ⟨h0, h1, h2, h3, h4, h5, h6, h7, h8, h9, h10⟩ := hc
      dsimp only [pz] at h0 h1 h2 h3 h4 h5 h6 h7 h8 h9 h10
      have e0 := hf (i * 11)
      have e1 := hf (i * 11 + 1)
      have e2 := hf (i * 11 + 2)
      have e3 := hf (i * 11 + 3)
      have e4 := hf (i * 11 + 4)
      have e5 := hf (i * 11 + 5)
      have e6 := hf (i * 11 + 6)
      have e7 := hf (i * 11 + 7)
      have e8 := hf (i * 11 + 8)
      have e9 := hf (i * 11 + 9)
      have e10 := hf (i * 11 + 10)
      clear hf hT HS HT hb6 d0 d1 d2 d3 d4 d5 d6 d7 d8 d9 d10
      unfold pv
      unfold s11 at HTT
      have hst : ∀ (a : Addr) (n : Nat) (m : Mode) (w : World), (store a (.float .f64 n) m).run Try.prog w = stored Try.prog w a (.float .f64 n) m := fun a n m w => run_store _ _ _ _ _ rfl
      go_wp2_with fail
      go_roundw
      case rel => exact ⟨i + 1, by go_num, by omega, HTT⟩
      case measure => simp [intOf]; omega
    · obtain rfl : i = n := by omega
      have HE : Hid (Tp w1 G i F i wr ∧ Kq w wr ∧ G = w.heap.size) := (⟨hI, hBW, HG⟩ : _ ∧ _ ∧ _)
      clear HI hI hA HA HG hBW
      go_wp2_with fail
      go_ret
      obtain ⟨hE, hB, hG⟩ := (show Tp w1 G i F i wr ∧ Kq w wr ∧ G = w.heap.size from HE)
      have hgl := Nat.lt_of_lt_of_le hE.gl hE.size
      exact ⟨_, G, rfl, ⟨⟨_, _, rfl, fun _ => ⟨rfl, Nat.le_refl _⟩⟩, hE.ce, fun _ => hE.fz⟩, by omega, hgl, hB⟩
theorem OwnP.block {W W' : World} {v : Value} {g n : Nat} {F : Nat → Pv} (h : OwnP W v g n F) (hb : 0 < n → W'.heap[g]? = W.heap[g]?) : OwnP W' v g n F := by
  refine ⟨h.sl, fun i hi => ?_, fun hn j => ?_⟩
  · have e : ∀ j, W'.cell? ⟨g, j, none⟩ = W.cell? ⟨g, j, none⟩ := fun j => World.cell?_of_block (hb (by omega))
    obtain ⟨c0, c1, c2, c3, c4, c5, c6, c7, c8, c9, c10⟩ := h.ce i hi
    exact ⟨(e _).trans c0, (e _).trans c1, (e _).trans c2, (e _).trans c3, (e _).trans c4, (e _).trans c5, (e _).trans c6, (e _).trans c7, (e _).trans c8, (e _).trans c9, (e _).trans c10⟩
  · have := h.fz hn j
    unfold World.frozen? at this ⊢
    rw [hb hn]
    exact this
theorem alloc_new (w : World) (o : Obj) : (w.alloc o).heap[w.heap.size]? = some o := by
  show (w.heap.push o)[w.heap.size]? = some o
  exact Array.getElem?_push_size
theorem kq_alloc (w : World) (c : Array Value) (t : TypeId) : Kq w (w.alloc (.cells c t)) := .of_grown (Grown.alloc (Grown.refl _) _ _)
theorem two_new (w : World) (a b : Array Value) (t1 t2 : TypeId) (W : World) (h : W = (w.alloc (.cells a t1)).alloc (.cells b t2)) : W.heap[w.heap.size]? = some (.cells a t1 (0, 0)) ∧ W.heap[w.heap.size + 1]? = some (.cells b t2 (0, 0)) ∧ W.heap.size = w.heap.size + 2 ∧ Kq w W := by
  subst h
  have e1 : (w.alloc (.cells a t1)).heap.size = w.heap.size + 1 := World.size_alloc _ _
  refine ⟨?_, ?_, by rw [World.size_alloc, e1], (kq_alloc _ _ _).trans (kq_alloc _ _ _)⟩
  · rw [(kq_alloc _ _ _).block _ (by omega)]
    exact alloc_new _ _
  · rw [← e1]
    exact alloc_new _ _
theorem three_new (w : World) (a b c : Array Value) (t1 t2 t3 : TypeId) (W : World) (h : W = ((w.alloc (.cells a t1)).alloc (.cells b t2)).alloc (.cells c t3)) : W.heap[w.heap.size]? = some (.cells a t1 (0, 0)) ∧ W.heap[w.heap.size + 1]? = some (.cells b t2 (0, 0)) ∧ W.heap[w.heap.size + 2]? = some (.cells c t3 (0, 0)) ∧ W.heap.size = w.heap.size + 3 ∧ Kq w W := by
  obtain ⟨V, hV⟩ : ∃ V, V = (w.alloc (.cells a t1)).alloc (.cells b t2) := ⟨_, rfl⟩
  rw [← hV] at h
  obtain ⟨q1, q2, q3, q4⟩ := two_new w a b t1 t2 V hV
  subst h
  refine ⟨?_, ?_, ?_, by rw [World.size_alloc, q3], q4.trans (kq_alloc _ _ _)⟩
  · rw [(kq_alloc _ _ _).block _ (by omega)]; exact q1
  · rw [(kq_alloc _ _ _).block _ (by omega)]; exact q2
  · rw [← q3]; exact alloc_new _ _
/-- a cell of a block that is known -/
theorem cell_of {W : World} {b j : Nat} {c : Array Value} {t : TypeId} {v : Value} (h : W.heap[b]? = some (.cells c t (0, 0))) (hv : c[j]? = some v) : W.cell? ⟨b, j, none⟩ = some v := by simp [World.cell?, h, hv]
theorem frozen_of {W : World} {b j : Nat} {c : Array Value} {t : TypeId} (h : W.heap[b]? = some (.cells c t (0, 0))) : W.frozen? ⟨b, j, none⟩ = false := by simp [World.frozen?, h]
set_option maxHeartbeats 4000000 in
theorem to_table {va : Value} {n : Nat} {F : Nat → Pv} (T : Int) (w : World) (ha : RowP w va n F) (hn : n ≤ 1048576) :
    Calls Try.prog 16 #[.agg #[va, .int .i64 T]] w fun e w' => ∃ v g, e = .returned (.agg #[v, .int .i64 T]) ∧ OwnP w' v g n F ∧ w.heap.size ≤ g ∧ g < w'.heap.size ∧ Kq w w' := by
  obtain ⟨w3', hw3'⟩ : ∃ w3' : Array Value → World, w3' = fun c => ((w.alloc (.cells c 35)).alloc (.cells #[.slice none 0 0, .int .i64 0] 40)).alloc (.cells #[.slice none 0 0, .int .i64 0] 40) := ⟨_, rfl⟩
  have k3 : ∀ c, Kq w (w3' c) := fun c => by
    rw [hw3']
    exact Kq.trans (.of_grown (Grown.alloc (Grown.refl _) _ _)) (Kq.trans (.of_grown (Grown.alloc (Grown.refl _) _ _)) (.of_grown (Grown.alloc (Grown.refl _) _ _)))
  have hs : Hid (∀ c, Calls Try.prog 42 #[va] (w3' c) fun e w' => ∃ v g, e = .returned v ∧ OwnP w' v g n F ∧ (w3' c).heap.size ≤ g ∧ g < w'.heap.size ∧ Kq (w3' c) w') := (fun c => to_pairs _ (ha.kq (k3 c)) hn : ∀ c, _)
  obtain ⟨pa, ca, rfl, _⟩ := ha
  obtain ⟨w3, hw3⟩ : ∃ w3, w3 = w3' #[.slice pa n ca, .int .i64 T] := ⟨_, rfl⟩
  have K3 := k3 #[.slice pa n ca, .int .i64 T]
  have hs1 := (show ∀ c, Calls Try.prog 42 #[.slice pa n ca] (w3' c) _ from hs) #[.slice pa n ca, .int .i64 T]
  rw [← hw3] at hs1 K3
  have HS1 : Hid (Calls Try.prog 42 #[.slice pa n ca] w3 fun e w' => ∃ v g, e = .returned v ∧ OwnP w' v g n F ∧ w3.heap.size ≤ g ∧ g < w'.heap.size ∧ Kq w3 w') := hs1
  rw [hw3'] at hw3
  clear hn hs hs1 k3 hw3'
  dsimp only at hw3
  obtain ⟨a0, a1, a2, z3, _⟩ := three_new w _ _ _ _ _ _ w3 hw3
  go_enter Try.func16, Try.ntmps16
  go_wp2_with fail
  rw [← hw3]
  refine (show Calls Try.prog 42 #[.slice pa n ca] w3 _ from HS1).mono ?_
  rintro e w1 ⟨v, g, rfl, ho, hg0, hg1, hb⟩
  have hz := hb.size
  have c01 : w1.cell? ⟨w.heap.size, 1, none⟩ = some (.int .i64 T) := hb.cell (cell_of a0 rfl)
  have c10 : w1.cell? ⟨w.heap.size + 1, 0, none⟩ = some (.slice none 0 0) := hb.cell (cell_of a1 rfl)
  have c11 : w1.cell? ⟨w.heap.size + 1, 1, none⟩ = some (.int .i64 0) := hb.cell (cell_of a1 rfl)
  have c20 : w1.cell? ⟨w.heap.size + 1 + 1, 0, none⟩ = some (.slice none 0 0) := hb.cell (cell_of a2 rfl)
  have c21 : w1.cell? ⟨w.heap.size + 1 + 1, 1, none⟩ = some (.int .i64 0) := hb.cell (cell_of a2 rfl)
  have f1 : ∀ j, w1.frozen? ⟨w.heap.size + 1, j, none⟩ = false := fun j => (hb.frozen (by omega)).trans (frozen_of a1)
  have f2 : ∀ j, w1.frozen? ⟨w.heap.size + 1 + 1, j, none⟩ = false := fun j => (hb.frozen (by omega)).trans (frozen_of a2)
  obtain ⟨pv, cv, rfl, hsl⟩ := ho.sl
  have hW : Kq w ((((w1.setCell ⟨w.heap.size + 1 + 1, 0, none⟩ (.slice pv n cv)).setCell ⟨w.heap.size + 1 + 1, 1, none⟩ (.int .i64 T)).setCell ⟨w.heap.size + 1, 0, none⟩ (.slice pv n cv)).setCell ⟨w.heap.size + 1, 1, none⟩ (.int .i64 T)) := kq_set (kq_set (kq_set (kq_set (K3.trans hb) (by omega)) (by omega)) (by omega)) (by omega)
  have hO : OwnP ((((w1.setCell ⟨w.heap.size + 1 + 1, 0, none⟩ (.slice pv n cv)).setCell ⟨w.heap.size + 1 + 1, 1, none⟩ (.int .i64 T)).setCell ⟨w.heap.size + 1, 0, none⟩ (.slice pv n cv)).setCell ⟨w.heap.size + 1, 1, none⟩ (.int .i64 T)) (.slice pv n cv) g n F := by
    have e : (((((w1.setCell ⟨w.heap.size + 1 + 1, 0, none⟩ (.slice pv n cv)).setCell ⟨w.heap.size + 1 + 1, 1, none⟩ (.int .i64 T)).setCell ⟨w.heap.size + 1, 0, none⟩ (.slice pv n cv)).setCell ⟨w.heap.size + 1, 1, none⟩ (.int .i64 T))).heap[g]? = w1.heap[g]? := by
      rw [Below.heap_setCell _ _ _ _ (show g ≠ w.heap.size + 1 by omega), Below.heap_setCell _ _ _ _ (show g ≠ w.heap.size + 1 by omega), Below.heap_setCell _ _ _ _ (show g ≠ w.heap.size + 1 + 1 by omega), Below.heap_setCell _ _ _ _ (show g ≠ w.heap.size + 1 + 1 by omega)]
    exact ho.block (fun _ => e)
  have e0 : ((((w1.setCell ⟨w.heap.size + 1 + 1, 0, none⟩ (.slice pv n cv)).setCell ⟨w.heap.size + 1 + 1, 1, none⟩ (.int .i64 T)).setCell ⟨w.heap.size + 1, 0, none⟩ (.slice pv n cv)).setCell ⟨w.heap.size + 1, 1, none⟩ (.int .i64 T)).cell? ⟨w.heap.size + 1, 0, none⟩ = some (.slice pv n cv) := by
    rw [set_ne _ _ _ _ _ (by decide)]
    refine set_eq _ _ _ _ (.slice none 0 0) ?_
    rw [World.cell?_of_block (Below.heap_setCell _ _ _ _ (show w.heap.size + 1 ≠ w.heap.size + 1 + 1 by omega)), World.cell?_of_block (Below.heap_setCell _ _ _ _ (show w.heap.size + 1 ≠ w.heap.size + 1 + 1 by omega))]
    exact c10
  have e1 : ((((w1.setCell ⟨w.heap.size + 1 + 1, 0, none⟩ (.slice pv n cv)).setCell ⟨w.heap.size + 1 + 1, 1, none⟩ (.int .i64 T)).setCell ⟨w.heap.size + 1, 0, none⟩ (.slice pv n cv)).setCell ⟨w.heap.size + 1, 1, none⟩ (.int .i64 T)).cell? ⟨w.heap.size + 1, 1, none⟩ = some (.int .i64 T) := by
    refine set_eq _ _ _ _ (.int .i64 0) ?_
    rw [set_ne _ _ _ _ _ (by decide), World.cell?_of_block (Below.heap_setCell _ _ _ _ (show w.heap.size + 1 ≠ w.heap.size + 1 + 1 by omega)), World.cell?_of_block (Below.heap_setCell _ _ _ _ (show w.heap.size + 1 ≠ w.heap.size + 1 + 1 by omega))]
    exact c11
  have HF : Hid (OwnP ((((w1.setCell ⟨w.heap.size + 1 + 1, 0, none⟩ (.slice pv n cv)).setCell ⟨w.heap.size + 1 + 1, 1, none⟩ (.int .i64 T)).setCell ⟨w.heap.size + 1, 0, none⟩ (.slice pv n cv)).setCell ⟨w.heap.size + 1, 1, none⟩ (.int .i64 T)) (.slice pv n cv) g n F ∧ w.heap.size ≤ g ∧ g < w1.heap.size ∧ Kq w ((((w1.setCell ⟨w.heap.size + 1 + 1, 0, none⟩ (.slice pv n cv)).setCell ⟨w.heap.size + 1 + 1, 1, none⟩ (.int .i64 T)).setCell ⟨w.heap.size + 1, 0, none⟩ (.slice pv n cv)).setCell ⟨w.heap.size + 1, 1, none⟩ (.int .i64 T))) := (⟨hO, by omega, hg1, hW⟩ : _ ∧ _)
  have E0 : Hid (((((w1.setCell ⟨w.heap.size + 1 + 1, 0, none⟩ (.slice pv n cv)).setCell ⟨w.heap.size + 1 + 1, 1, none⟩ (.int .i64 T)).setCell ⟨w.heap.size + 1, 0, none⟩ (.slice pv n cv)).setCell ⟨w.heap.size + 1, 1, none⟩ (.int .i64 T)).cell? ⟨w.heap.size + 1, 0, none⟩ = some (.slice pv n cv)) := e0
  have E1 : Hid (((((w1.setCell ⟨w.heap.size + 1 + 1, 0, none⟩ (.slice pv n cv)).setCell ⟨w.heap.size + 1 + 1, 1, none⟩ (.int .i64 T)).setCell ⟨w.heap.size + 1, 0, none⟩ (.slice pv n cv)).setCell ⟨w.heap.size + 1, 1, none⟩ (.int .i64 T)).cell? ⟨w.heap.size + 1, 1, none⟩ = some (.int .i64 T)) := e1
  clear a0 a1 a2 z3 ho hg0 hg1 hb hz hO hW e0 e1 hsl HS1 hw3 K3
  go_wp2_with fail
  have e0 := (show _ = some (Value.slice pv n cv) from E0)
  have e1 := (show _ = some (Value.int .i64 T) from E1)
  refine bodyPost_ret (by simp [results, Try.results16, go_sem, e0, e1]; rfl) rfl ?_
  obtain ⟨q1, q2, q3, q4⟩ := (show OwnP _ (.slice pv n cv) g n F ∧ w.heap.size ≤ g ∧ g < w1.heap.size ∧ Kq w _ from HF)
  exact ⟨_, g, rfl, q1, q2, by simpa using q3, q4⟩
end Go.Proofs.Ytfpidccjcemcjaa
