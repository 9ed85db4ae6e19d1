import Derived.Test.YtogenhnonjkanaaDoorSbd
import Derived.Test.YtogenhnonjkanaaDoorScc
import Derived.Lib.BufferRead
namespace Go.Proofs.YtogenhnonjkanaaDoor
open Go.ChangeShapes Go.WideShapes Go.ChangeAt Go.RowKit
set_option linter.unusedVariables false
theorem Elt.byte {L : List UInt8} {j : Nat} {ok : Bool} {v : Int} {e : Nat} (h : Elt L j ok v e) : ∃ b : UInt8, v = (b.toNat : Int) := by
  have key : ∀ n : Nat, n < 256 → ∃ b : UInt8, (n : Int) = (b.toNat : Int) := fun n hn => ⟨UInt8.ofNat n, by simp; omega⟩
  cases h with
  | plain x h hx => exact ⟨x, rfl⟩
  | simple c v h hc hv => rcases hv with ⟨_, rfl⟩ | ⟨_, rfl⟩ | ⟨_, rfl⟩ | ⟨_, rfl⟩
                          · exact ⟨10, rfl⟩
                          · exact ⟨9, rfl⟩
                          · exact ⟨34, rfl⟩
                          · exact ⟨92, rfl⟩
  | hex x y h hc hx hxd hy hyd =>
    obtain ⟨b, hb⟩ := key (Rd.dw x * 16 + Rd.dw y) (by omega)
    exact ⟨b, by rw [← hb]; simp⟩
  | hexA h hc hno => exact ⟨0, rfl⟩
  | hexB x h hc hx hxd hno => exact ⟨0, rfl⟩
  | none h hc => exact ⟨0, rfl⟩
/-- a string from a place on, what it has told so far: whether it ends well, where, and its bytes -/
inductive Sr (L : List UInt8) : Nat → List UInt8 → Bool → Nat → List UInt8 → Prop
  | fin (j : Nat) (acc : List UInt8) (h : L.length ≤ j) : Sr L j acc false j []
  | nl (j : Nat) (acc : List UInt8) (h : L[j]? = some 10) : Sr L j acc false j []
  | quote (j : Nat) (acc : List UInt8) (h : L[j]? = some 34) : Sr L j acc true (j + 1) acc
  | bad (j : Nat) (acc : List UInt8) (x : UInt8) (v : Int) (e : Nat) (h : L[j]? = some x) (hx : x ≠ 34 ∧ x ≠ 10) (he : Elt L j false v e) : Sr L j acc false e []
  | step (j : Nat) (acc : List UInt8) (x b : UInt8) (e : Nat) (ok : Bool) (to : Nat) (t : List UInt8) (h : L[j]? = some x) (hx : x ≠ 34 ∧ x ≠ 10) (he : Elt L j true (b.toNat : Int) e) (hr : Sr L e (acc ++ [b]) ok to t) : Sr L j acc ok to t
theorem sr_any (L : List UInt8) : ∀ (n j : Nat) (acc : List UInt8), L.length - j ≤ n → ∃ ok to t, Sr L j acc ok to t
  | n, j, acc, hn => by
    rcases Nat.lt_or_ge j L.length with hj | hj
    · have hx := List.getElem?_eq_getElem hj
      by_cases h34 : L[j] = 34
      · rw [h34] at hx; exact ⟨_, _, _, .quote j acc hx⟩
      · by_cases h10 : L[j] = 10
        · rw [h10] at hx; exact ⟨_, _, _, .nl j acc hx⟩
        · obtain ⟨ok, v, e, he⟩ := elt_any L j hj
          obtain ⟨b, rfl⟩ := he.byte
          cases ok with
          | false => exact ⟨_, _, _, .bad j acc _ _ e hx ⟨h34, h10⟩ he⟩
          | true =>
            have := he.gt
            cases n with
            | zero => omega
            | succ n =>
              obtain ⟨ok, to, t, hr⟩ := sr_any L n e (acc ++ [b]) (by omega)
              exact ⟨ok, to, t, .step j acc _ b e ok to t hx ⟨h34, h10⟩ he hr⟩
    · exact ⟨_, _, _, .fin j acc hj⟩
theorem Sr.inv {L : List UInt8} {j : Nat} {acc : List UInt8} {ok : Bool} {to : Nat} {t : List UInt8} (h : Sr L j acc ok to t) :
    (L.length ≤ j ∧ ok = false ∧ to = j ∧ t = []) ∨ (L[j]? = some 10 ∧ ok = false ∧ to = j ∧ t = []) ∨ (L[j]? = some 34 ∧ ok = true ∧ to = j + 1 ∧ t = acc) ∨
    (∃ x v, L[j]? = some x ∧ x ≠ 34 ∧ x ≠ 10 ∧ Elt L j false v to ∧ ok = false ∧ t = []) ∨ (∃ (x b : UInt8) (e : Nat), L[j]? = some x ∧ x ≠ 34 ∧ x ≠ 10 ∧ Elt L j true (b.toNat : Int) e ∧ Sr L e (acc ++ [b]) ok to t) := by
  cases h with
  | fin _ _ h => exact .inl ⟨h, rfl, rfl, rfl⟩
  | nl _ _ h => exact .inr (.inl ⟨h, rfl, rfl, rfl⟩)
  | quote _ _ h => exact .inr (.inr (.inl ⟨h, rfl, rfl, rfl⟩))
  | bad _ _ x v e h hx he => exact .inr (.inr (.inr (.inl ⟨x, v, h, hx.1, hx.2, he, rfl, rfl⟩)))
  | step _ _ x b e _ _ _ h hx he hr => exact .inr (.inr (.inr (.inr ⟨x, b, e, h, hx.1, hx.2, he, hr⟩)))
theorem Sr.le {L : List UInt8} {j : Nat} {acc : List UInt8} {ok : Bool} {to : Nat} {t : List UInt8} (h : Sr L j acc ok to t) : j ≤ L.length → j ≤ to ∧ to ≤ L.length ∧ (ok = false → t = []) ∧ t.length ≤ acc.length + (L.length - j) := by
  induction h with
  | fin j acc h => intro hj; exact ⟨Nat.le_refl _, hj, fun _ => rfl, by simp⟩
  | nl j acc h => intro hj; exact ⟨Nat.le_refl _, hj, fun _ => rfl, by simp⟩
  | quote j acc h => intro hj; have := (List.getElem?_eq_some_iff.1 h).1; exact ⟨by omega, by omega, (fun h => by cases h), by omega⟩
  | bad j acc x v e h hx he => intro hj; have := he.gt; have := he.le; exact ⟨by omega, by omega, fun _ => rfl, by simp⟩
  | step j acc x b e ok to t h hx he hr ih =>
    intro hj
    have h1 := he.gt; have h2 := he.le
    obtain ⟨i1, i2, i3, i4⟩ := ih h2
    refine ⟨by omega, i2, i3, ?_⟩
    rw [List.length_append] at i4
    simp at i4
    omega
theorem conv_any {W : World} {base : Nat} {l : List UInt8} {v : Value} (h : W.ownsRow base 5 1 v l.length (Lib.byteCells l)) : (convert 66 9 v).run Tryd.prog W = .ok (.string ⟨l.toArray⟩) W := by
  rcases h.2 with ⟨rfl, h0⟩ | ⟨g, cap, cur, rfl, _⟩
  · have : l = [] := List.eq_nil_of_length_eq_zero h0
    subst this
    exact Lib.run_convert_nil_bytes W 66 9 5 0 Tryd.underlying66 Tryd.underlying5 Tryd.underlying9
  · refine run_convert_bytes_back W 66 9 5 _ cap l Tryd.underlying66 Tryd.underlying5 Tryd.underlying9 (fun j hj => ?_)
    exact h.cells (g := g) rfl j (.int .u8 (l[j].toNat : Int)) (by simp [Lib.byteCells, hj])
theorem Mz.start1 {B : Nat} {T : ByteArray} {k l : Int} {st : Bool} {w : World} (h : Sb B T k l st w) (k' : Int) : Mz B w.heap.size T k' l st w ((w.setCell ⟨B, 1, none⟩ (.int .i64 k')).alloc (.cells #[.int .i64 0, .int .i64 0, .int .i64 0, .int .i64 0, .int .i64 0, .string ⟨#[]⟩] 33)) := by
  have e : (w.setCell ⟨B, 1, none⟩ (.int .i64 k')).heap.size = w.heap.size := by simp
  refine ⟨⟨((Kb.refl B w).setCell 1 _).alloc _, ?_⟩, ?_⟩
  · exact (Below.heap_alloc _ _ _ (by have := h.lt; omega)).trans (h.set1 k')
  · have := Rz.new (w.setCell ⟨B, 1, none⟩ (.int .i64 k'))
    rw [e] at this
    exact this
/-- the scan stands at j, the answer's block as laid, the row told so far -/
structure Ms (w : World) (B : Nat) (T : ByteArray) (j l : Int) (st : Bool) (acc : List UInt8) (v : Value) (W : World) : Prop where
  mz : Mz B w.heap.size T j l st w W
  row : W.ownsRow (w.heap.size + 1) 5 1 v acc.length (Lib.byteCells acc)
theorem Ms.mv {w : World} {B : Nat} {T : ByteArray} {j l : Int} {st : Bool} {acc : List UInt8} {v : Value} {W W' : World} {j' : Int} (h : Ms w B T j l st acc v W) (hB : B < w.heap.size) (g : Mv B T j' l st W W') : Ms w B T j' l st acc v W' :=
  ⟨h.mz.trans g (by omega), rowKb h.row g.1 (by omega)⟩
theorem Ms.add {w : World} {B : Nat} {T : ByteArray} {j l : Int} {st : Bool} {acc : List UInt8} {v v' : Value} {W w1 : World} {o : Obj} (b : UInt8) (h : Ms w B T j l st acc v W) (hB : B < w.heap.size)
    (ho : w1.ownsRow (w.heap.size + 1) 5 1 v' (acc.length + 1) (Lib.byteCells acc ++ Lib.byteCells [b])) (hg : (W.alloc o).grownBy w1 v.ownBlock) : Ms w B T j l st (acc ++ [b]) v' w1 := by
  have hs := h.mz.2.lt
  have hblk : ∀ i, i < w.heap.size + 1 → w1.heap[i]? = W.heap[i]? := fun i hi => (hg.block i (by simp; omega) (fun e2 => by have := (h.row.lt i e2.symm).1; omega)).trans (Below.heap_alloc _ _ _ (by omega))
  have hgs := hg.size
  refine ⟨⟨⟨⟨hg.os.trans h.mz.1.1.os, hg.output.trans h.mz.1.1.output, ?_, fun i hi hn => ?_⟩, ?_⟩, ?_⟩, ?_⟩
  · simp at hgs; omega
  · rw [hblk i (by omega)]; exact h.mz.1.1.block i hi hn
  · exact (hblk B (by omega)).trans h.mz.1.2
  · exact (hblk _ (by omega)).trans h.mz.2
  · rw [List.length_append, bc_append]; exact ho
set_option maxRecDepth 100000 in
set_option maxHeartbeats 2000000 in
theorem impl_str {B : Nat} {T : ByteArray} (L : List UInt8) (hT : T.data.toList = L) {k : Nat} {l : Int} {st : Bool} (hlen : T.size ≤ 65536) (hk : k < L.length) (hB : 8 ≤ B) {ok : Bool} {to : Nat} {t : List UInt8} (hr : Sr L (k + 1) [] ok to t) (kd : Int) (hkd : kd = if ok = true then 4 else 0) (w : World) (h : Sb B T k l st w) :
    Calls Tryd.prog 67 #[.pointer (some ⟨B, 0, none⟩)] w fun e w' => e = .returned (tokV kd 0 0 0 0 ⟨t.toArray⟩) ∧ Mv B T (to : Int) l st w w' := by
  have hs : T.size = L.length := by rw [← hT]; simp
  obtain ⟨M, hM, hLM⟩ : ∃ M : Int, M ≤ 65536 ∧ (L.length : Int) ≤ M := ⟨L.length, by omega, Int.le_refl _⟩
  have hBlt : B < w.heap.size := h.lt
  have hnB : w.heap.size ≠ B := by omega
  obtain ⟨i0, hi0, hz0, hz1, hz2⟩ := info_parts info5
  have HI0 : Hid (Tryd.prog.info? 5 = some i0) := hi0
  have c1 := h.c1
  have f1 := h.fz 1
  have hkM : (k : Int) ≤ M := by omega
  have hz := Mz.start1 h ((k : Int) + 1)
  have HS : Hid (Mz B w.heap.size T ((k + 1 : Nat) : Int) l st w ((w.setCell ⟨B, 1, none⟩ (.int .i64 ((k : Int) + 1))).alloc (.cells #[.int .i64 0, .int .i64 0, .int .i64 0, .int .i64 0, .int .i64 0, .string ⟨#[]⟩] 33))) := hz
  have HR : Hid (Sr L (k + 1) [] ok to t) := hr
  have HKD : Hid (kd = if ok = true then 4 else 0) := hkd
  have HLN : Hid (T.size ≤ 65536 ∧ T.data.toList = L) := (⟨hlen, hT⟩ : _ ∧ _)
  clear hT hlen h hz hr hi0 hkd
  go_enter Tryd.func67, Tryd.ntmps67
  go_wp2_with fail
  clear c1 f1
  go_loopw [3] (fun s wr => ∃ (j : Nat) (acc : List UInt8) (v : Value), v = s ∧ j ≤ L.length ∧ Hid (Ms w B T j l st acc v wr ∧ Sr L j acc ok to t ∧ acc.length ≤ j)) (fun _ wr => L.length - atOf B wr)
  case atStart => exact ⟨k + 1, [], .slice none 0 0, rfl, by omega, (⟨⟨HS, World.ownsRow_nil _ _ _ _⟩, HR, by simp⟩ : _ ∧ _ ∧ _)⟩
  case round =>
    clear HS HR
    obtain ⟨j, acc, v, hv, hj, HR⟩ := hrel
    subst hv
    obtain ⟨hMs, hr, hac⟩ := (show Ms w B T j l st acc v wr ∧ Sr L j acc ok to t ∧ acc.length ≤ j from HR)
    clear HR
    obtain ⟨hlen, hT⟩ := (show T.size ≤ 65536 ∧ T.data.toList = L from HLN)
    have hat := atOf_sb hMs.mz.1.2
    rcases hr.inv with ⟨r1, r2, r3, r4⟩ | ⟨r1, r2, r3, r4⟩ | ⟨r1, r2, r3, r4⟩ | ⟨x, ev, r1, r2, r3, r4, r5, r6⟩ | ⟨x, b, ee, r1, r2, r3, r4, r5⟩
    · have he := ended_mv true (by simp; omega) wr hMs.mz.1.2
      have HOK : Hid (ok = false ∧ t = []) := (⟨r2, r4⟩ : _ ∧ _)
      have HQ : Hid (∀ w1, Mv B T (j : Int) l st wr w1 → Mz B w.heap.size T (to : Int) l st w w1) := (fun w1 m1 => by rw [r3]; exact hMs.mz.trans m1 hnB : ∀ w1, Mv B T (j : Int) l st wr w1 → Mz B w.heap.size T (to : Int) l st w w1)
      clear hMs hr hT hlen r1 r2 r3 r4 hat HLN
      go_wp2_with fail
      refine he.mono ?_
      rintro en w1 ⟨rfl, m1⟩
      have hq := (show ∀ w1, _ → _ from HQ) w1 m1
      clear he HQ m1
      have z3 := hq.2
      have g0 := z3.c0
      have g1 := z3.c1
      have g2 := z3.c2
      have g3 := z3.c3
      have g4 := z3.c4
      have g5 := z3.c5
      have y0 := z3.f0
      have y1 := z3.f1
      have y2 := z3.f2
      have y3 := z3.f3
      have y4 := z3.f4
      have y5 := z3.f5
      have e0 := st6_c0 z3
      have e1 := st6_c1 z3
      have e2 := st6_c2 z3
      have e3 := st6_c3 z3
      have e4 := st6_c4 z3
      have e5 := st6_c5 z3
      have HM4 : Hid (Mv B T (to : Int) l st w w1) := hq.1
      clear hq z3
      go_wp2_with fail
      refine bodyPost_ret (by simp [results, Tryd.results67, go_sem, e0, e1, e2, e3, e4, e5]; rfl) rfl ?_
      have hEE := (show ok = false ∧ t = [] from HOK)
      have hKD := (show kd = if ok = true then 4 else 0 from HKD)
      rw [hEE.1, if_neg (by decide)] at hKD
      rw [hKD, hEE.2]
      exact ⟨rfl, st6_mv HM4 (Nat.le_refl _) hnB _ _ _ _ _ _⟩
    · have hjn : j < L.length := (List.getElem?_eq_some_iff.1 r1).1
      have he := ended_mv false (by simp; omega) wr hMs.mz.1.2
      have hse := fun w1 (m1 : Mv B T (j : Int) l st wr w1) => sees_mv ⟨#[10]⟩ true (by omega) (by rw [hT]; exact (pre_one L j 10).2 r1) w1 m1.2
      have HOK : Hid (ok = false ∧ t = []) := (⟨r2, r4⟩ : _ ∧ _)
      have HQ : Hid (∀ w1, Mv B T (j : Int) l st wr w1 → Mz B w.heap.size T (to : Int) l st w w1) := (fun w1 m1 => by rw [r3]; exact hMs.mz.trans m1 hnB : ∀ w1, Mv B T (j : Int) l st wr w1 → Mz B w.heap.size T (to : Int) l st w w1)
      clear hMs hr hT hlen r1 r2 r3 r4 hat HLN
      go_wp2_with fail
      refine he.mono ?_
      rintro en w1 ⟨rfl, m1⟩
      have hs1 := hse w1 m1
      clear he hse
      go_wp2_with fail
      refine hs1.mono ?_
      rintro en w2 ⟨rfl, m2⟩
      have hq := (show ∀ w1, _ → _ from HQ) w2 (m1.trans m2)
      clear hs1 HQ m1 m2
      have z3 := hq.2
      have g0 := z3.c0
      have g1 := z3.c1
      have g2 := z3.c2
      have g3 := z3.c3
      have g4 := z3.c4
      have g5 := z3.c5
      have y0 := z3.f0
      have y1 := z3.f1
      have y2 := z3.f2
      have y3 := z3.f3
      have y4 := z3.f4
      have y5 := z3.f5
      have e0 := st6_c0 z3
      have e1 := st6_c1 z3
      have e2 := st6_c2 z3
      have e3 := st6_c3 z3
      have e4 := st6_c4 z3
      have e5 := st6_c5 z3
      have HM4 : Hid (Mv B T (to : Int) l st w w2) := hq.1
      clear hq z3
      go_wp2_with fail
      refine bodyPost_ret (by simp [results, Tryd.results67, go_sem, e0, e1, e2, e3, e4, e5]; rfl) rfl ?_
      have hEE := (show ok = false ∧ t = [] from HOK)
      have hKD := (show kd = if ok = true then 4 else 0 from HKD)
      rw [hEE.1, if_neg (by decide)] at hKD
      rw [hKD, hEE.2]
      exact ⟨rfl, st6_mv HM4 (Nat.le_refl _) hnB _ _ _ _ _ _⟩
    · have hjn : j < L.length := (List.getElem?_eq_some_iff.1 r1).1
      have he := ended_mv false (by simp; omega) wr hMs.mz.1.2
      have hse := fun w1 (m1 : Mv B T (j : Int) l st wr w1) => sees_mv ⟨#[10]⟩ false (by omega) (by rw [hT, Bool.eq_false_iff]; intro g; have g2 := (pre_one L j 10).1 g; rw [r1] at g2; cases g2) w1 m1.2
      have htk := fun w1 (m1 : Mv B T (j : Int) l st wr w1) => take_mv (k := j) 34 34 rfl true (j + 1) hlen (by omega) (by rw [hT]; exact .inl ⟨r1, rfl, rfl⟩) w1 m1.2
      have HQ : Hid (∀ w1, Mv B T ((j + 1 : Nat) : Int) l st wr w1 → Mz B w.heap.size T (to : Int) l st w w1 ∧ (convert 66 9 v).run Tryd.prog w1 = .ok (.string ⟨t.toArray⟩) w1) := (fun w1 m1 => by
        have := hMs.mv hBlt m1
        refine ⟨by rw [r3]; exact this.mz, ?_⟩
        rw [r4]
        exact conv_any this.row : ∀ w1, Mv B T ((j + 1 : Nat) : Int) l st wr w1 → Mz B w.heap.size T (to : Int) l st w w1 ∧ (convert 66 9 v).run Tryd.prog w1 = .ok (.string ⟨t.toArray⟩) w1)
      have HOK : Hid (ok = true) := r2
      clear hMs hr hT hlen r1 r2 r3 r4 hat HLN
      go_wp2_with fail
      refine he.mono ?_
      rintro en w1 ⟨rfl, m1⟩
      have hs1 := hse w1 m1
      clear he hse
      go_wp2_with fail
      refine hs1.mono ?_
      rintro en w2 ⟨rfl, m2⟩
      have m12 := m1.trans m2
      have ht1 := htk w2 m12
      clear hs1 m1 m2 htk
      go_wp2_with fail
      refine ht1.mono ?_
      rintro en w3 ⟨rfl, m3⟩
      have m13 := m12.trans m3
      clear ht1 m12 m3
      obtain ⟨hq, hcv⟩ := (show ∀ w1, _ → _ from HQ) w3 m13
      clear HQ m13
      have z3 := hq.2
      have g0 := z3.c0
      have g1 := z3.c1
      have g2 := z3.c2
      have g3 := z3.c3
      have g4 := z3.c4
      have g5 := z3.c5
      have y0 := z3.f0
      have y1 := z3.f1
      have y2 := z3.f2
      have y3 := z3.f3
      have y4 := z3.f4
      have y5 := z3.f5
      have e0 := st6_c0 z3
      have e1 := st6_c1 z3
      have e2 := st6_c2 z3
      have e3 := st6_c3 z3
      have e4 := st6_c4 z3
      have e5 := st6_c5 z3
      have HM4 : Hid (Mv B T (to : Int) l st w w3) := hq.1
      clear hq z3
      go_wp2_with fail
      refine bodyPost_ret (by simp [results, Tryd.results67, go_sem, e0, e1, e2, e3, e4, e5]; rfl) rfl ?_
      have hEE := (show ok = true from HOK)
      have hKD := (show kd = if ok = true then 4 else 0 from HKD)
      rw [hEE, if_pos rfl] at hKD
      rw [hKD]
      exact ⟨rfl, st6_mv HM4 (Nat.le_refl _) hnB _ _ _ _ _ _⟩
    · have hjn : j < L.length := (List.getElem?_eq_some_iff.1 r1).1
      have he := ended_mv false (by simp; omega) wr hMs.mz.1.2
      have hse := fun w1 (m1 : Mv B T (j : Int) l st wr w1) => sees_mv ⟨#[10]⟩ false (by omega) (by rw [hT, Bool.eq_false_iff]; intro g; have g2 := (pre_one L j 10).1 g; rw [r1] at g2; exact r3 (Option.some.inj g2)) w1 m1.2
      have htk := fun w1 (m1 : Mv B T (j : Int) l st wr w1) => take_mv (k := j) 34 34 rfl false j hlen (by omega) (by rw [hT]; exact .inr ⟨by rw [r1]; intro g; exact r2 (Option.some.inj g), rfl, rfl⟩) w1 m1.2
      have hel := fun w1 (m1 : Mv B T (j : Int) l st wr w1) => impl_elt L hT hlen r4 w1 m1.2
      have HOK : Hid (ok = false ∧ t = []) := (⟨r5, r6⟩ : _ ∧ _)
      have HQ : Hid (∀ w1, Mv B T (to : Int) l st wr w1 → Mz B w.heap.size T (to : Int) l st w w1) := (fun w1 m1 => hMs.mz.trans m1 hnB : ∀ w1, Mv B T (to : Int) l st wr w1 → Mz B w.heap.size T (to : Int) l st w w1)
      clear hMs hr hT hlen r1 r2 r3 r4 r5 r6 hat HLN
      go_wp2_with fail
      refine he.mono ?_
      rintro en w1 ⟨rfl, m1⟩
      have hs1 := hse w1 m1
      clear he hse
      go_wp2_with fail
      refine hs1.mono ?_
      rintro en w2 ⟨rfl, m2⟩
      have m12 := m1.trans m2
      have ht1 := htk w2 m12
      clear hs1 m1 m2 htk
      go_wp2_with fail
      refine ht1.mono ?_
      rintro en w3 ⟨rfl, m3⟩
      have m13 := m12.trans m3
      clear ht1 m12 m3
      have hel1 := hel w3 m13
      clear hel
      go_wp2_with fail
      refine hel1.mono ?_
      rintro en w4 ⟨rfl, m4⟩
      have hq := (show ∀ w1, _ → _ from HQ) w4 (m13.trans m4)
      clear hel1 HQ m13 m4
      have z3 := hq.2
      have g0 := z3.c0
      have g1 := z3.c1
      have g2 := z3.c2
      have g3 := z3.c3
      have g4 := z3.c4
      have g5 := z3.c5
      have y0 := z3.f0
      have y1 := z3.f1
      have y2 := z3.f2
      have y3 := z3.f3
      have y4 := z3.f4
      have y5 := z3.f5
      have e0 := st6_c0 z3
      have e1 := st6_c1 z3
      have e2 := st6_c2 z3
      have e3 := st6_c3 z3
      have e4 := st6_c4 z3
      have e5 := st6_c5 z3
      have HM4 : Hid (Mv B T (to : Int) l st w w4) := hq.1
      clear hq z3
      go_wp2_with fail
      refine bodyPost_ret (by simp [results, Tryd.results67, go_sem, e0, e1, e2, e3, e4, e5]; rfl) rfl ?_
      have hEE := (show ok = false ∧ t = [] from HOK)
      have hKD := (show kd = if ok = true then 4 else 0 from HKD)
      rw [hEE.1, if_neg (by decide)] at hKD
      rw [hKD, hEE.2]
      exact ⟨rfl, st6_mv HM4 (Nat.le_refl _) hnB _ _ _ _ _ _⟩
    · have hjn : j < L.length := (List.getElem?_eq_some_iff.1 r1).1
      have he := ended_mv false (by simp; omega) wr hMs.mz.1.2
      have hse := fun w1 (m1 : Mv B T (j : Int) l st wr w1) => sees_mv ⟨#[10]⟩ false (by omega) (by rw [hT, Bool.eq_false_iff]; intro g; have g2 := (pre_one L j 10).1 g; rw [r1] at g2; exact r3 (Option.some.inj g2)) w1 m1.2
      have htk := fun w1 (m1 : Mv B T (j : Int) l st wr w1) => take_mv (k := j) 34 34 rfl false j hlen (by omega) (by rw [hT]; exact .inr ⟨by rw [r1]; intro g; exact r2 (Option.some.inj g), rfl, rfl⟩) w1 m1.2
      have hel := fun w1 (m1 : Mv B T (j : Int) l st wr w1) => impl_elt L hT hlen r4 w1 m1.2
      have hgt := r4.gt
      have hle := r4.le
      have HQ : Hid (∀ w1, Mv B T (ee : Int) l st wr w1 → Ms w B T (ee : Int) l st acc v w1) := (fun w1 m1 => hMs.mv hBlt m1 : ∀ w1, Mv B T (ee : Int) l st wr w1 → Ms w B T (ee : Int) l st acc v w1)
      have HSR : Hid (Sr L ee (acc ++ [b]) ok to t) := r5
      have h1c := bc_one [b]
      have hbc : Lib.byteCells [b] = [.int .u8 (b.toNat : Int)] := rfl
      rw [hbc] at h1c
      clear hMs hr hT hlen r1 r2 r3 r4 r5 HLN
      generalize hbi : (b.toNat : Int) = bi at *
      go_wp2_with fail
      refine he.mono ?_
      rintro en w1 ⟨rfl, m1⟩
      have hs1 := hse w1 m1
      clear he hse
      go_wp2_with fail
      refine hs1.mono ?_
      rintro en w2 ⟨rfl, m2⟩
      have m12 := m1.trans m2
      have ht1 := htk w2 m12
      clear hs1 m1 m2 htk
      go_wp2_with fail
      refine ht1.mono ?_
      rintro en w3 ⟨rfl, m3⟩
      have m13 := m12.trans m3
      clear ht1 m12 m3
      have hel1 := hel w3 m13
      clear hel
      go_wp2_with fail
      refine hel1.mono ?_
      rintro en w4 ⟨rfl, m4⟩
      have hq := (show ∀ w1, _ → _ from HQ) w4 (m13.trans m4)
      clear hel1 HQ m13 m4
      have howna : ∀ o : Obj, (w4.alloc o).ownsRow (w.heap.size + 1) 5 1 v acc.length (Lib.byteCells acc) := fun o => hq.row.alloc o
      have hs4 := hq.mz.2.lt
      have HADD : Hid (∀ (o : Obj) (v' : Value) (w5 : World), w5.ownsRow (w.heap.size + 1) 5 1 v' (acc.length + 1) (Lib.byteCells acc ++ [.int .u8 bi]) → (w4.alloc o).grownBy w5 v.ownBlock → Ms w B T (ee : Int) l st (acc ++ [b]) v' w5) :=
        (fun o v' w5 ho hg => hq.add b hBlt (by rw [hbc]; exact ho) hg : ∀ (o : Obj) (v' : Value) (w5 : World), w5.ownsRow (w.heap.size + 1) 5 1 v' (acc.length + 1) (Lib.byteCells acc ++ [.int .u8 bi]) → (w4.alloc o).grownBy w5 v.ownBlock → Ms w B T (ee : Int) l st (acc ++ [b]) v' w5)
      clear hq hbc
      have hacb : acc.length ≤ L.length := by omega
      have hLb : L.length ≤ 65536 := by omega
      go_wp2_with (at_builtin; refine wpList_append_own _ rfl (.tmp 41) (.tmp 43) 66 rfl (w.heap.size + 1) 5 i0 (.int .u8 0) 1 1 Tryd.underlying66 HI0 hz0 hz1 hz2 rfl (by decide) _ _ _ rfl (howna _) ⟨w4.heap.size, 0, none⟩ 1 1 [.int .u8 bi] rfl rfl (qr_cells w4 #[.int .u8 bi] 5 _ rfl) h1c (by unfold maxLen; omega) (by omega) (by simp; omega) ?_; intro v' w5 hown1 hgrow1 _)
      have hM5 := (show ∀ (o : Obj) (v' : Value) (w5 : World), _ from HADD) _ _ _ hown1 hgrow1
      have hat5 := atOf_sb hM5.mz.1.2
      have HM5 : Hid (Ms w B T (ee : Int) l st (acc ++ [b]) v' w5 ∧ Sr L ee (acc ++ [b]) ok to t ∧ (acc ++ [b]).length ≤ ee) := (⟨hM5, HSR, by rw [List.length_append]; simp; omega⟩ : _ ∧ _ ∧ _)
      clear HADD hown1 hgrow1 howna hM5 HSR
      go_wp2_with fail
      refine ⟨⟨ee, acc ++ [b], v', rfl, hle, HM5⟩, ?_⟩
      rw [hat5, hat]
      omega
end Go.Proofs.YtogenhnonjkanaaDoor
