import Derived.Test.YtogenhnonjkanaaDoorScc
namespace Go.Proofs.YtogenhnonjkanaaDoor
open Go.ChangeShapes Go.WideShapes Go.ChangeAt Go.RowKit
set_option linter.unusedVariables false
/-- the contract of the model's read -/
def TokS (T : ByteArray) (L : List UInt8) (tk : Nat → Tk) : Prop := ∀ (p : Nat) (w : World), p < L.length → Calls Tryd.prog 15 #[.string T, .int .i64 (p : Int)] w fun e w' => Below w.heap.size w w' ∧
  ((tk p).kind ≠ 0 → e = .returned (.tuple #[tokV (tk p).kind p (tk p).to 0 (tk p).num (tk p).text, .int .i64 (-1)])) ∧ ((tk p).kind = 0 → ∃ a b c d n t, e = .returned (.tuple #[tokV a b c d n t, .int .i64 ((tk p).to : Int)]))
/-- between two rounds of the model's -/
structure Ov (w : World) (tk : Nat → Tk) (pre : List (Nat × Int)) (v : Value) (W : World) : Prop where
  bel : Below w.heap.size w W
  size : w.heap.size + 2 ≤ W.heap.size
  res : W.heap[w.heap.size]? = some (.cells #[.bool false, .int .i64 0, .slice none 0 0] 24 (0, 0))
  out : W.heap[w.heap.size + 1]? = some (.cells #[.bool true, .int .i64 0, v] 24 (0, 0))
  row : W.ownsRow (w.heap.size + 2) 33 6 v pre.length (pre.flatMap (tcs tk))
theorem Ov.below {w : World} {tk : Nat → Tk} {pre : List (Nat × Int)} {v : Value} {W W' : World} (h : Ov w tk pre v W) (hb : Below W.heap.size W W') : Ov w tk pre v W' := by
  have hs := h.size
  have h1 := h.bel.size
  exact ⟨h.bel.trans (hb.mono h1), Nat.le_trans hs hb.size, (hb.block _ (by omega)).trans h.res, (hb.block _ (by omega)).trans h.out, rowBlk h.row (fun g e => hb.block g (h.row.lt g e).2)⟩
theorem Ov.add {w : World} {tk : Nat → Tk} {pre : List (Nat × Int)} {v v' : Value} {W w1 : World} {o : Obj} (x : Nat × Int) (h : Ov w tk pre v W) (ho : w1.ownsRow (w.heap.size + 2) 33 6 v' (pre.length + 1) (pre.flatMap (tcs tk) ++ tcs tk x)) (hg : (W.alloc o).grownBy w1 v.ownBlock) :
    w1.cell? ⟨w.heap.size + 1, 2, none⟩ = some v ∧ w1.frozen? ⟨w.heap.size + 1, 2, none⟩ = false ∧ (∀ i, i < W.heap.size → v.ownBlock ≠ some i → w1.heap[i]? = W.heap[i]?) ∧ Ov w tk (pre ++ [x]) v' (w1.setCell ⟨w.heap.size + 1, 2, none⟩ v') := by
  have hs := h.size
  have hblk : ∀ i, i < W.heap.size → v.ownBlock ≠ some i → w1.heap[i]? = W.heap[i]? := fun i hi hne => (hg.block i (by simp; omega) (fun e2 => hne e2.symm)).trans (Below.heap_alloc _ _ _ hi)
  have hlow : ∀ i, i < w.heap.size + 2 → w1.heap[i]? = W.heap[i]? := fun i hi => hblk i (by omega) (fun e2 => by have := (h.row.lt i e2).1; omega)
  have hf := (hlow (w.heap.size + 1) (by omega)).trans h.out
  have hse : ∀ i, i ≠ w.heap.size + 1 → (w1.setCell ⟨w.heap.size + 1, 2, none⟩ v').heap[i]? = w1.heap[i]? := fun i hne => Below.heap_setCell w1 _ _ _ hne
  have hgs := hg.size
  refine ⟨by simp [World.cell?, hf], by simp [World.frozen?, hf], hblk, ⟨hg.os.trans h.bel.os, hg.tape.trans h.bel.tape, hg.output.trans h.bel.output, by have := h.bel.size; simp at hgs ⊢; omega, fun i hi => ?_⟩, by simp at hgs ⊢; omega, ?_, ?_, ?_⟩
  · rw [hse i (by omega), hlow i (by omega)]; exact h.bel.block i hi
  · rw [hse _ (by omega)]; exact (hlow _ (by omega)).trans h.res
  · simp [World.setCell, Array.getElem?_modify, hf]
  · rw [List.length_append, List.flatMap_append]
    refine rowBlk (W := w1) (by simpa using ho) (fun g' e2 => hse g' ?_)
    have := (ho.lt g' e2).1
    omega
set_option maxRecDepth 100000 in
set_option maxHeartbeats 2000000 in
theorem spec_scan (T : ByteArray) (L : List UInt8) (hT : T.data.toList = L) (hlen : T.size ≤ 65536) (tk : Nat → Tk) (ok : TkOk L tk) (xs : List (Nat × Int)) (e : Nat) (st : Bool) (hrun : Run L tk (bl L 0) 1 xs e st) (htok : TokS T L tk) (hxl : xs.length ≤ 65536) (w : World) :
    Calls Tryd.prog 5 #[.string T] w fun en w' => Below w.heap.size w w' ∧ ∃ v, en = .returned (scanV e st v) ∧ (st = false → w'.ownsRow w.heap.size 33 6 v xs.length (xs.flatMap (tcs tk))) := by
  have hsz : T.size = L.length := by rw [← hT]; simp
  have hI : ¬ (65536 : Int) < (T.size : Int) := by omega
  have hbl0 := bl_le L 0 (Nat.zero_le _)
  have HBL : Hid (∀ (k : Nat), k ≤ L.length → ∀ w, Calls Tryd.prog 14 #[.string T, .int .i64 (k : Int)] w fun e w' => e = .returned (.int .i64 (bl L k : Int)) ∧ w' = w) := (fun k hk w => spec_blanks T L hT (by omega) k hk w : ∀ (k : Nat), k ≤ L.length → ∀ w, Calls Tryd.prog 14 #[.string T, .int .i64 (k : Int)] w fun e w' => e = .returned (.int .i64 (bl L k : Int)) ∧ w' = w)
  have hb0 : ∀ w, Calls Tryd.prog 14 #[.string T, .int .i64 0] w fun e w' => e = .returned (.int .i64 (bl L 0 : Int)) ∧ w' = w := (show ∀ (k : Nat), _ from HBL) 0 (Nat.zero_le _)
  have HTK : Hid (TokS T L tk) := htok
  have HOK : Hid (TkOk L tk) := ok
  have HRUN : Hid (Run L tk (bl L 0) 1 xs e st) := hrun
  have HXL : Hid (xs.length ≤ 65536) := hxl
  obtain ⟨M, hM, hLM⟩ : ∃ M : Int, M ≤ 65536 ∧ (L.length : Int) ≤ M := ⟨L.length, by omega, Int.le_refl _⟩
  have h0 : Ov w tk [] (.slice none 0 0) ((w.alloc (.cells #[.bool false, .int .i64 0, .slice none 0 0] 24)).alloc (.cells #[.bool true, .int .i64 0, .slice none 0 0] 24)) := by
    refine ⟨bel2 w _ _, by simp, ?_, ?_, World.ownsRow_nil _ _ _ _⟩
    · rw [Below.heap_alloc _ _ _ (by simp)]; exact World.alloc_heap_new w _
    · have := World.alloc_heap_new (w.alloc (.cells #[.bool false, .int .i64 0, .slice none 0 0] 24)) (.cells #[.bool true, .int .i64 0, .slice none 0 0] 24)
      simpa using this
  have H0 : Hid (Ov w tk [] (.slice none 0 0) ((w.alloc (.cells #[.bool false, .int .i64 0, .slice none 0 0] 24)).alloc (.cells #[.bool true, .int .i64 0, .slice none 0 0] 24))) := h0
  clear h0 hrun ok htok hT hlen hxl
  go_enter Tryd.func5, Tryd.ntmps5
  go_wp2_with fail
  refine (hb0 _).mono ?_
  rintro en w1 ⟨rfl, rfl⟩
  clear hb0
  go_wp2_with fail
  go_loopw [4, 5] (fun a b wr => ∃ (p : Nat) (l : Int) (pre rest : List (Nat × Int)) (v : Value), a = .int .i64 l ∧ b = .int .i64 (p : Int) ∧ p ≤ L.length ∧ Hid (xs = pre ++ rest ∧ Run L tk p l rest e st ∧ 0 ≤ l ∧ l ≤ (p : Int) + 1 ∧ Ov w tk pre v wr)) (fun _ b _ => L.length - (intOf b).toNat)
  case atStart => exact ⟨bl L 0, 1, [], xs, .slice none 0 0, rfl, rfl, hbl0, (⟨rfl, HRUN, by omega, by omega, H0⟩ : _ ∧ _ ∧ _ ∧ _ ∧ _)⟩
  case round =>
    clear H0 HRUN
    obtain ⟨p, l, pre, rest, v, rfl, rfl, hp, HR⟩ := hrel
    obtain ⟨hx, hrun, hl0, hl1, hO⟩ := (show xs = pre ++ rest ∧ Run L tk p l rest e st ∧ 0 ≤ l ∧ l ≤ (p : Int) + 1 ∧ Ov w tk pre v wr from HR)
    clear HR
    have hpM : (p : Int) ≤ M := by omega
    have r0 : wr.cell? ⟨w.heap.size, 0, none⟩ = some (.bool false) := by simp [World.cell?, hO.res]
    have r1 : wr.cell? ⟨w.heap.size, 1, none⟩ = some (.int .i64 0) := by simp [World.cell?, hO.res]
    have r2 : wr.cell? ⟨w.heap.size, 2, none⟩ = some (.slice none 0 0) := by simp [World.cell?, hO.res]
    have q0 : wr.frozen? ⟨w.heap.size, 0, none⟩ = false := by simp [World.frozen?, hO.res]
    have q1 : wr.frozen? ⟨w.heap.size, 1, none⟩ = false := by simp [World.frozen?, hO.res]
    have q2 : wr.frozen? ⟨w.heap.size, 2, none⟩ = false := by simp [World.frozen?, hO.res]
    have o0 : wr.cell? ⟨w.heap.size + 1, 0, none⟩ = some (.bool true) := by simp [World.cell?, hO.out]
    have o1 : wr.cell? ⟨w.heap.size + 1, 1, none⟩ = some (.int .i64 0) := by simp [World.cell?, hO.out]
    have o2 : wr.cell? ⟨w.heap.size + 1, 2, none⟩ = some v := by simp [World.cell?, hO.out]
    rcases hrun.inv with ⟨s1, s2, s3, s4⟩ | ⟨s1, s2, s3, s4, s5⟩ | ⟨ts, s1, s2, s3, s4⟩
    · have hsh : ∃ (ad : Option Addr) (nn cap : Nat), v = .slice ad nn cap := by
        rcases hO.row.2 with ⟨h1, _⟩ | ⟨g2, cap, cur, e3, _⟩
        · exact ⟨none, 0, 0, h1⟩
        · exact ⟨_, _, _, e3⟩
      obtain ⟨ad, nn, cap, rfl⟩ := hsh
      have hnl : ¬ (p : Int) < (T.size : Int) := by omega
      have HF : Hid (Below w.heap.size w (st3 wr w.heap.size (.bool true) (.int .i64 0) (.slice ad nn cap)) ∧ ∃ v, Ending.returned (.agg #[.bool true, .int .i64 0, .slice ad nn cap]) = .returned (scanV e st v) ∧ (st = false → (st3 wr w.heap.size (.bool true) (.int .i64 0) (.slice ad nn cap)).ownsRow w.heap.size 33 6 v xs.length (xs.flatMap (tcs tk)))) := by
        show _ ∧ _
        refine ⟨?_, .slice ad nn cap, by rw [s4]; rfl, fun _ => ?_⟩
        · exact ((hO.bel.setCell (Nat.le_refl _) _).setCell (Nat.le_refl _) _).setCell (Nat.le_refl _) _
        · have hr := hO.row
          rw [hx, s1, List.append_nil]
          refine rowBlk (ownsRow_mono' hr (by omega)) (fun g' e2 => st3_other _ _ _ g' ?_)
          have := (hr.lt g' e2).1
          omega
      have e0 : (st3 wr w.heap.size (.bool true) (.int .i64 0) (.slice ad nn cap)).cell? ⟨w.heap.size, 0, none⟩ = some (.bool true) := by have := st3_heap hO.res (.bool true) (.int .i64 0) (.slice ad nn cap); simp [World.cell?, this]
      have e1 : (st3 wr w.heap.size (.bool true) (.int .i64 0) (.slice ad nn cap)).cell? ⟨w.heap.size, 1, none⟩ = some (.int .i64 0) := by have := st3_heap hO.res (.bool true) (.int .i64 0) (.slice ad nn cap); simp [World.cell?, this]
      have e2 : (st3 wr w.heap.size (.bool true) (.int .i64 0) (.slice ad nn cap)).cell? ⟨w.heap.size, 2, none⟩ = some (.slice ad nn cap) := by have := st3_heap hO.res (.bool true) (.int .i64 0) (.slice ad nn cap); simp [World.cell?, this]
      have EH : Hid (_ ∧ _ ∧ _) := (⟨e0, e1, e2⟩ : _ ∧ _ ∧ _)
      clear HTK HOK HXL HBL hx hO hl0 hl1 hrun s1 s2 s3 s4 e0 e1 e2
      go_wp2_with fail
      obtain ⟨e0, e1, e2⟩ := EH
      unfold st3 at e0 e1 e2
      refine bodyPost_ret (by simp [results, Tryd.results5, go_sem, e0, e1, e2]; rfl) rfl ?_
      exact HF
    · have hnl : (p : Int) < (T.size : Int) := by omega
      have hcall := (show TokS T L tk from HTK) p wr s2
      have HE : Hid (e = (tk p).to ∧ st = true) := (⟨s4, s5⟩ : _ ∧ _)
      have HOB : Hid (∀ w1, Below wr.heap.size wr w1 → Ov w tk pre v w1) := (fun w1 hb => hO.below hb : ∀ w1, Below wr.heap.size wr w1 → Ov w tk pre v w1)
      clear HTK HOK HXL HBL hx hO hl0 hl1 hrun s1 s2 s4 s5
      go_wp2_with fail
      refine hcall.mono ?_
      rintro en w1 ⟨hb1, _, hbad⟩
      obtain ⟨a1, b1, c1, d1, n1, t1, rfl⟩ := hbad s3
      have hO1 := (show ∀ w1, Below wr.heap.size wr w1 → Ov w tk pre v w1 from HOB) w1 hb1
      have hO2 := hO1.below ((Below.refl _ w1).alloc (Nat.le_refl _) (.cells #[.int .i64 a1, .int .i64 b1, .int .i64 c1, .int .i64 d1, .int .i64 n1, .string t1] 33))
      unfold tokV
      obtain ⟨A, hA⟩ : ∃ A, A = w1.alloc (.cells #[.int .i64 a1, .int .i64 b1, .int .i64 c1, .int .i64 d1, .int .i64 n1, .string t1] 33) := ⟨_, rfl⟩
      rw [← hA] at hO2
      clear r0 r1 r2 q0 q1 q2 o0 o1 o2 hcall hb1 hbad HOB hO1
      have r0 : A.cell? ⟨w.heap.size, 0, none⟩ = some (.bool false) := by simp [World.cell?, hO2.res]
      have r1 : A.cell? ⟨w.heap.size, 1, none⟩ = some (.int .i64 0) := by simp [World.cell?, hO2.res]
      have r2 : A.cell? ⟨w.heap.size, 2, none⟩ = some (.slice none 0 0) := by simp [World.cell?, hO2.res]
      have q0 : A.frozen? ⟨w.heap.size, 0, none⟩ = false := by simp [World.frozen?, hO2.res]
      have q1 : A.frozen? ⟨w.heap.size, 1, none⟩ = false := by simp [World.frozen?, hO2.res]
      have q2 : A.frozen? ⟨w.heap.size, 2, none⟩ = false := by simp [World.frozen?, hO2.res]
      have HF : Hid (Below w.heap.size w (st3 A w.heap.size (.bool false) (.int .i64 ((tk p).to : Int)) (.slice none 0 0))) := ((hO2.bel.setCell (Nat.le_refl _) _).setCell (Nat.le_refl _) _).setCell (Nat.le_refl _) _
      have e0 : (st3 A w.heap.size (.bool false) (.int .i64 ((tk p).to : Int)) (.slice none 0 0)).cell? ⟨w.heap.size, 0, none⟩ = some (.bool false) := by have := st3_heap hO2.res (.bool false) (.int .i64 ((tk p).to : Int)) (.slice none 0 0); simp [World.cell?, this]
      have e1 : (st3 A w.heap.size (.bool false) (.int .i64 ((tk p).to : Int)) (.slice none 0 0)).cell? ⟨w.heap.size, 1, none⟩ = some (.int .i64 ((tk p).to : Int)) := by have := st3_heap hO2.res (.bool false) (.int .i64 ((tk p).to : Int)) (.slice none 0 0); simp [World.cell?, this]
      have e2 : (st3 A w.heap.size (.bool false) (.int .i64 ((tk p).to : Int)) (.slice none 0 0)).cell? ⟨w.heap.size, 2, none⟩ = some (.slice none 0 0) := by have := st3_heap hO2.res (.bool false) (.int .i64 ((tk p).to : Int)) (.slice none 0 0); simp [World.cell?, this]
      have EH : Hid (_ ∧ _ ∧ _) := (⟨e0, e1, e2⟩ : _ ∧ _ ∧ _)
      have hnn : (0 : Int) ≤ ((tk p).to : Int) := by omega
      rw [hA] at r0 r1 r2 q0 q1 q2
      clear hO2 e0 e1 e2 s3
      go_wp2_with fail
      obtain ⟨e0, e1, e2⟩ := EH
      unfold st3 at e0 e1 e2
      have HFF := (show Below w.heap.size w (st3 A w.heap.size (.bool false) (.int .i64 ((tk p).to : Int)) (.slice none 0 0)) from HF)
      unfold st3 at HFF
      rw [hA] at e0 e1 e2 HFF
      refine bodyPost_ret (by simp [results, Tryd.results5, go_sem, e0, e1, e2]; rfl) rfl ?_
      have hEE := (show e = (tk p).to ∧ st = true from HE)
      refine ⟨?_, .slice none 0 0, ?_, fun h => ?_⟩
      · simpa [go_sem] using HFF
      · rw [hEE.1, hEE.2]; rfl
      · rw [hEE.2] at h; cases h
    · have hnl : (p : Int) < (T.size : Int) := by omega
      have hcall := (show TokS T L tk from HTK) p wr s2
      have hto1 := (show TkOk L tk from HOK).lt p s2 s3
      have hto2 := (show TkOk L tk from HOK).le p s2
      obtain ⟨i0, hi0, hz0, hz1, hz2⟩ := info_parts infoTok
      have HI0 : Hid (Tryd.prog.info? 33 = some i0) := hi0
      have hbl := bl_le L (tk p).to hto2
      have hblg := bl_ge L (tk p).to
      have hblc := (show ∀ (k : Nat), _ from HBL) (tk p).to hto2
      have HX : Hid (xs = (pre ++ [(p, l)]) ++ ts ∧ Run L tk (bl L (tk p).to) (if (tk p).kind = 7 then l + 1 else l) ts e st) := (⟨by rw [hx, s1]; simp, s4⟩ : _ ∧ _)
      have hpl : pre.length + 1 ≤ 65536 := by have := (show xs.length ≤ 65536 from HXL); rw [hx, s1, List.length_append, List.length_cons] at this; omega
      have HOB : Hid (∀ w1, Below wr.heap.size wr w1 → Ov w tk pre v w1) := (fun w1 hb => hO.below hb : ∀ w1, Below wr.heap.size wr w1 → Ov w tk pre v w1)
      have hwr := hO.size
      have hgl : ∀ g, v.ownBlock = some g → g < wr.heap.size := fun g e2 => (hO.row.lt g e2).2
      have hlM : l ≤ M + 1 := by omega
      have HL : Hid (0 ≤ l ∧ l ≤ (p : Int) + 1) := (⟨hl0, hl1⟩ : _ ∧ _)
      have h1c : ∀ u ∈ [(.int .i64 (tk p).kind : Value), .int .i64 p, .int .i64 (tk p).to, .int .i64 l, .int .i64 (tk p).num, .string (tk p).text], u.oneCell' = true := by intro u hu; simp at hu; rcases hu with rfl | rfl | rfl | rfl | rfl | rfl <;> rfl
      clear HTK HOK HXL HBL hx hO hrun s1 s2 s4 hi0
      go_wp2_with fail
      refine hcall.mono ?_
      rintro en w1 ⟨hb1, hgood, _⟩
      obtain rfl := hgood s3
      have hO1 := (show ∀ w1, Below wr.heap.size wr w1 → Ov w tk pre v w1 from HOB) w1 hb1
      have hO2 := hO1.below ((Below.refl _ w1).alloc (Nat.le_refl _) (.cells #[.int .i64 (tk p).kind, .int .i64 p, .int .i64 (tk p).to, .int .i64 l, .int .i64 (tk p).num, .string (tk p).text] 33))
      unfold tokV
      obtain ⟨A, hA⟩ : ∃ A, A = w1.alloc (.cells #[.int .i64 (tk p).kind, .int .i64 p, .int .i64 (tk p).to, .int .i64 l, .int .i64 (tk p).num, .string (tk p).text] 33) := ⟨_, rfl⟩
      rw [← hA] at hO2
      have hAz : A.heap.size = w1.heap.size + 1 := by rw [hA]; simp
      have hAt : A.heap[w1.heap.size]? = some (.cells #[.int .i64 (tk p).kind, .int .i64 p, .int .i64 (tk p).to, .int .i64 l, .int .i64 (tk p).num, .string (tk p).text] 33 (0, 0)) := by rw [hA]; exact World.alloc_heap_new _ _
      have hbs := hb1.size
      clear r0 r1 r2 q0 q1 q2 o0 o1 o2 hcall hb1 hgood HOB hO1
      have o2 : A.cell? ⟨w.heap.size + 1, 2, none⟩ = some v := by simp [World.cell?, hO2.out]
      have howna : ∀ o : Obj, (A.alloc o).ownsRow (w.heap.size + 2) 33 6 v pre.length (pre.flatMap (tcs tk)) := fun o => hO2.row.alloc o
      have hsA := hO2.size
      have HADD : Hid (∀ (o : Obj) (v' : Value) (w2 : World), w2.ownsRow (w.heap.size + 2) 33 6 v' (pre.length + 1) (pre.flatMap (tcs tk) ++ [.int .i64 (tk p).kind, .int .i64 p, .int .i64 (tk p).to, .int .i64 l, .int .i64 (tk p).num, .string (tk p).text]) → (A.alloc o).grownBy w2 v.ownBlock →
          w2.cell? ⟨w.heap.size + 1, 2, none⟩ = some v ∧ w2.frozen? ⟨w.heap.size + 1, 2, none⟩ = false ∧ (w2.setCell ⟨w.heap.size + 1, 2, none⟩ v').cell? ⟨w1.heap.size, 2, none⟩ = some (.int .i64 ((tk p).to : Int)) ∧ Ov w tk (pre ++ [(p, l)]) v' (w2.setCell ⟨w.heap.size + 1, 2, none⟩ v')) := by
        show ∀ (o : Obj) (v' : Value) (w2 : World), _
        intro o v' w2 ho hgr
        obtain ⟨z1, z2, z3, z4⟩ := Ov.add (p, l) hO2 ho hgr
        refine ⟨z1, z2, ?_, z4⟩
        have hne : v.ownBlock ≠ some w1.heap.size := fun e2 => by have := hgl _ e2; omega
        have hb2 := z3 w1.heap.size (by omega) hne
        rw [World.cell?_of_block (w := A) ((Below.heap_setCell w2 _ _ _ (by show w1.heap.size ≠ w.heap.size + 1; omega)).trans hb2)]
        simp [World.cell?, hAt]
      have hqc := qr_cells A #[.int .i64 (tk p).kind, .int .i64 p, .int .i64 (tk p).to, .int .i64 l, .int .i64 (tk p).num, .string (tk p).text] 33 _ rfl
      rw [hAz] at hqc
      have hsz4 : w.heap.size + 2 ≤ w1.heap.size + 1 + 1 := by omega
      rw [hA] at o2 howna HADD hqc
      clear hO2 hAt hAz hgl hsA
      by_cases h7 : (tk p).kind = 7
      · have hk7 : ((tk p).kind == 7) = true := by simpa using h7
        rw [if_pos h7] at HX
        clear h7
        go_wp2_with (at_builtin; refine wpList_append_own _ rfl (.tmp 37) (.tmp 39) 22 rfl (w.heap.size + 2) 33 i0 (.agg #[.int .i64 0, .int .i64 0, .int .i64 0, .int .i64 0, .int .i64 0, .string ⟨#[]⟩]) 6 56 Tryd.underlying22 HI0 hz0 hz1 hz2 rfl (by decide) _ _ _ rfl (howna _) ⟨w1.heap.size + 1, 0, none⟩ 1 1 [.int .i64 (tk p).kind, .int .i64 p, .int .i64 (tk p).to, .int .i64 l, .int .i64 (tk p).num, .string (tk p).text] rfl rfl hqc h1c (by unfold maxLen; omega) (by omega) (by simp; omega) ?_; intro v' w2 hown1 hgrow1 _; obtain ⟨g', cap', rfl⟩ := ownsRow_succ hown1; obtain ⟨d4, z4, d5, hfin⟩ := HADD _ _ _ hown1 hgrow1; clear HADD hown1 hgrow1 o2 howna)
        refine (hblc _).mono ?_
        rintro en w3 ⟨rfl, rfl⟩
        clear hblc d4 z4 d5
        have HN : Hid (Ov w tk (pre ++ [(p, l)]) (.slice (some ⟨g', 0, none⟩) (pre.length + 1) cap') (w2.setCell ⟨w.heap.size + 1, 2, none⟩ (.slice (some ⟨g', 0, none⟩) (pre.length + 1) cap'))) := hfin
        clear hfin hqc
        go_wp2_with fail
        refine ⟨⟨bl L (tk p).to, l + 1, pre ++ [(p, l)], ts, _, rfl, rfl, hbl, (⟨HX.1, HX.2, by have := HL.1; omega, by have := HL.2; omega, HN⟩ : _ ∧ _ ∧ _ ∧ _ ∧ _)⟩, ?_⟩
        simp [intOf]; omega
      · have hk7 : ((tk p).kind == 7) = false := by simpa using h7
        rw [if_neg h7] at HX
        clear h7
        go_wp2_with (at_builtin; refine wpList_append_own _ rfl (.tmp 37) (.tmp 39) 22 rfl (w.heap.size + 2) 33 i0 (.agg #[.int .i64 0, .int .i64 0, .int .i64 0, .int .i64 0, .int .i64 0, .string ⟨#[]⟩]) 6 56 Tryd.underlying22 HI0 hz0 hz1 hz2 rfl (by decide) _ _ _ rfl (howna _) ⟨w1.heap.size + 1, 0, none⟩ 1 1 [.int .i64 (tk p).kind, .int .i64 p, .int .i64 (tk p).to, .int .i64 l, .int .i64 (tk p).num, .string (tk p).text] rfl rfl hqc h1c (by unfold maxLen; omega) (by omega) (by simp; omega) ?_; intro v' w2 hown1 hgrow1 _; obtain ⟨g', cap', rfl⟩ := ownsRow_succ hown1; obtain ⟨d4, z4, d5, hfin⟩ := HADD _ _ _ hown1 hgrow1; clear HADD hown1 hgrow1 o2 howna)
        refine (hblc _).mono ?_
        rintro en w3 ⟨rfl, rfl⟩
        clear hblc d4 z4 d5
        have HN : Hid (Ov w tk (pre ++ [(p, l)]) (.slice (some ⟨g', 0, none⟩) (pre.length + 1) cap') (w2.setCell ⟨w.heap.size + 1, 2, none⟩ (.slice (some ⟨g', 0, none⟩) (pre.length + 1) cap'))) := hfin
        clear hfin hqc
        go_wp2_with fail
        refine ⟨⟨bl L (tk p).to, l, pre ++ [(p, l)], ts, _, rfl, rfl, hbl, (⟨HX.1, HX.2, by have := HL.1; omega, by have := HL.2; omega, HN⟩ : _ ∧ _ ∧ _ ∧ _ ∧ _)⟩, ?_⟩
        simp [intOf]; omega
end Go.Proofs.YtogenhnonjkanaaDoor
