import Derived.Test.YtogenhnonjkanaaDoorMTfw
import Derived.Test.YtogenhnonjkanaaDoorMTkd
namespace Go.Proofs.YtogenhnonjkanaaDoor
open Go.ChangeShapes Go.WideShapes Go.ChangeAt Go.RowKit
set_option linter.unusedVariables false
/-- the digits told so far, in a row of their own -/
structure Dq (w : World) (acc : List UInt8) (v : Value) (W : World) : Prop where
  bel : Below w.heap.size w W
  row : W.ownsRow w.heap.size 5 1 v acc.length (Lib.byteCells acc)
theorem Dq.add {w : World} {acc : List UInt8} {v v' : Value} {W w1 : World} {o : Obj} (b : UInt8) (h : Dq w acc v W)
    (ho : w1.ownsRow w.heap.size 5 1 v' (acc.length + 1) (Lib.byteCells acc ++ Lib.byteCells [b])) (hg : (W.alloc o).grownBy w1 v.ownBlock) : Dq w (acc ++ [b]) v' w1 := by
  have hb := h.bel
  have hsz := hb.size
  have hblk : ∀ i, i < w.heap.size → w1.heap[i]? = W.heap[i]? := fun i hi => (hg.block i (by simp; omega) (fun e2 => by have := (h.row.lt i e2.symm).1; omega)).trans (Below.heap_alloc _ _ _ (by omega))
  have hgs := hg.size
  refine ⟨⟨hg.os.trans hb.os, hg.tape.trans hb.tape, hg.output.trans hb.output, ?_, fun i hi => ?_⟩, ?_⟩
  · simp at hgs; omega
  · rw [hblk i hi]; exact hb.block i hi
  · rw [List.length_append, bc_append]; exact ho
theorem dg_ten : ∀ i : Fin 10, Fm.dg i.val = UInt8.ofNat (48 + i.val) ∧ (Fm.dg i.val).toNat = 48 + i.val := by decide
def DcI (w : World) (n j : Nat) (acc : List UInt8) (v : Value) (W : World) : Prop := Dq w acc v W ∧ Fm.wr 10 n = Fm.wr 10 j ++ acc.reverse ∧ acc.length ≤ 64
def DcO (w : World) (acc : List UInt8) (g : Nat) (i : Nat) (W : World) : Prop := Below w.heap.size w W ∧ g < W.heap.size ∧ ∀ j x, acc[j]? = some x → W.cell? ⟨g, j, none⟩ = some (.int .u8 (x.toNat : Int))
set_option maxRecDepth 100000 in
set_option maxHeartbeats 4000000 in
theorem spec_dec (n : Nat) (hn : (n : Int) < 9223372036854775808) (w : World) : Calls Tryd.prog 44 #[.int .i64 (n : Int)] w fun e w' => e = .returned (.string ⟨(Fm.wrt 10 n).toArray⟩) ∧ Below w.heap.size w w' := by
  by_cases h0 : n = 0
  · subst h0
    have e : Fm.wrt 10 0 = [48] := by unfold Fm.wrt; rfl
    rw [e]
    go_enter Tryd.func44, Tryd.ntmps44
    go_wp2_with fail
    go_ret
    exact ⟨rfl, Below.refl _ _⟩
  · have e : Fm.wrt 10 n = Fm.wr 10 n := by unfold Fm.wrt; rw [if_neg h0]
    rw [e]
    have hnI : ((n : Int) == 0) = false := by rw [beq_eq_false_iff_ne]; omega
    have hnN : ¬ (n : Int) < 0 := by omega
    have hwl := Fm.wr_len 10 (by decide) 64 n (by omega)
    obtain ⟨i0, hi0, hz0, hz1, hz2⟩ := info_parts info5
    have HI0 : Hid (Tryd.prog.info? 5 = some i0) := hi0
    have HT0 : Hid (DcI w n n [] (.slice none 0 0) w) := (⟨⟨Below.refl _ _, World.ownsRow_nil _ _ _ _⟩, by simp, by simp⟩ : _ ∧ _ ∧ _)
    have HWL : Hid ((Fm.wr 10 n).length ≤ 64) := hwl
    obtain ⟨M, hM, hnM⟩ : ∃ M : Int, M ≤ 9223372036854775807 ∧ (n : Int) ≤ M := ⟨n, by omega, Int.le_refl _⟩
    have HM : Hid (M ≤ 9223372036854775807 ∧ (n : Int) ≤ M) := (⟨hM, hnM⟩ : _ ∧ _)
    have HN0 : Hid (n ≠ 0) := h0
    clear e hwl hi0 h0 hn hM hnM
    go_enter Tryd.func44, Tryd.ntmps44
    go_upto_block 0 with fail
    go_wp2_with fail
    clear hnI hnN
    go_loopw [0, 4] (fun s0 s4 wr => ∃ (j : Nat) (acc : List UInt8) (v : Value), s0 = .int .i64 (j : Int) ∧ v = s4 ∧ j ≤ n ∧ DcI w n j acc v wr) (fun s0 _ _ => (intOf s0).toNat)
    case atStart => exact ⟨n, [], .slice none 0 0, rfl, rfl, Nat.le_refl _, HT0⟩
    case round =>
      clear HT0
      obtain ⟨j, acc, v, rfl, hvv, hj, HI⟩ := hrel
      subst hvv
      obtain ⟨hD, hW, hA⟩ := (show Dq w acc v wr ∧ Fm.wr 10 n = Fm.wr 10 j ++ acc.reverse ∧ acc.length ≤ 64 from HI)
      clear HI
      by_cases hj0 : j = 0
      · subst hj0
        rw [Fm.wr_zero, List.nil_append] at hW
        have hrow := hD.row
        have hpos : 0 < acc.length := by
          have h1 := congrArg List.length hW
          rw [Fm.wr_pos 10 n (by decide) HN0, List.length_append, List.length_reverse] at h1
          simp at h1
          omega
        obtain ⟨g, cap, rfl, hcap⟩ : ∃ g cap, v = .slice (some ⟨g, 0, none⟩) acc.length cap ∧ acc.length ≤ cap := by
          rcases hrow.2 with ⟨_, h⟩ | ⟨g, cap, cur, h1, _, _, h2, _⟩
          · omega
          · exact ⟨g, cap, h1, h2⟩
        have hcl : ∀ j x, acc[j]? = some x → wr.cell? ⟨g, j, none⟩ = some (.int .u8 (x.toNat : Int)) := by
          intro j x hx
          have := hrow.cells (g := g) rfl j (.int .u8 (x.toNat : Int)) (by simp [Lib.byteCells, hx])
          rw [addr_add] at this
          exact this
        have HO : Hid (DcO w acc g 0 wr) := (⟨hD.bel, by
          obtain ⟨x, hx⟩ : ∃ x, acc[0]? = some x := ⟨acc[0], List.getElem?_eq_getElem hpos⟩
          exact Rd.lt_of_cell (hcl 0 x hx), hcl⟩ : _ ∧ _ ∧ _)
        have HW : Hid (Fm.wr 10 n = acc.reverse) := hW
        have hA2 : (acc.length : Int) ≤ 64 := by omega
        clear hD hW hrow hcl hj HWL HM hz0 hz1 hz2 HI0 HN0
        go_wp2_with fail
        go_loopw [6, 7] (fun s6 s7 wr => ∃ i : Nat, i ≤ acc.length ∧ s7 = .int .i64 ((i : Int) - 1) ∧ s6 = .string ⟨(acc.reverse.take (acc.length - i)).toArray⟩ ∧ DcO w acc g 0 wr) (fun _ s7 _ => (intOf s7 + 1).toNat)
        case atStart => exact ⟨acc.length, Nat.le_refl _, by go_num, by rw [Nat.sub_self]; rfl, HO⟩
        case round =>
          clear HO
          obtain ⟨i, hi, hs7, rfl, HQ⟩ := hrel
          cases i with
          | zero =>
            have e7 : ((0 : Nat) : Int) - 1 = -1 := rfl
            rw [e7] at hs7
            subst hs7
            have eo : acc.reverse.take (acc.length - 0) = Fm.wr 10 n := by rw [show Fm.wr 10 n = acc.reverse from HW, Nat.sub_zero, ← List.length_reverse, List.take_length]
            rw [eo]
            have HE : Hid (Below w.heap.size w wr) := HQ.1
            clear HQ eo e7 HW
            go_wp2_with fail
            go_ret
            exact ⟨rfl, HE⟩
          | succ i =>
            have e7 : ((i + 1 : Nat) : Int) - 1 = (i : Int) := by omega
            rw [e7] at hs7
            subst hs7
            obtain ⟨q1, q2, q3⟩ := (show Below w.heap.size w wr ∧ g < wr.heap.size ∧ ∀ j x, acc[j]? = some x → wr.cell? ⟨g, j, none⟩ = some (.int .u8 (x.toNat : Int)) from HQ)
            have hx : acc[i]? = some acc[i] := List.getElem?_eq_getElem (by omega)
            have hc := q3 i _ hx
            have hcv := conv_one wr acc[i]
            have hiI : (i : Int) < (acc.length : Int) := by omega
            have hi0 : (0 : Int) ≤ (i : Int) := by omega
            have htk : acc.reverse.take (acc.length - i) = acc.reverse.take (acc.length - (i + 1)) ++ [acc[i]] := by
              rw [show acc.length - i = (acc.length - (i + 1)) + 1 by omega]
              have hr : acc.reverse[acc.length - (i + 1)]? = some acc[i] := by
                rw [List.getElem?_reverse (by omega), show acc.length - 1 - (acc.length - (i + 1)) = i by omega]
                exact hx
              rw [List.take_add_one, hr]
              rfl
            have HTK : Hid ((⟨(acc.reverse.take (acc.length - (i + 1))).toArray⟩ : ByteArray) ++ ⟨#[acc[i]]⟩ = ⟨(acc.reverse.take (acc.length - i)).toArray⟩) := by
              show (_ : ByteArray) = _
              rw [htk]
              apply ByteArray.ext
              simp
            have hsz : (⟨(acc.reverse.take (acc.length - (i + 1))).toArray⟩ : ByteArray).size ≤ 64 := by
              show (acc.reverse.take (acc.length - (i + 1))).toArray.size ≤ 64
              simp
              omega
            have HN : Hid (DcO w acc g 0 (wr.alloc (.cells #[.int .u8 (acc[i].toNat : Int)] 5))) := (⟨q1.alloc q1.size _, by simp; omega, fun j x hx => by
              have e := World.cell?_of_block (a := ⟨g, j, none⟩) (Below.heap_alloc wr (.cells #[.int .u8 (acc[i].toNat : Int)] 5) g q2)
              rw [e]; exact q3 j x hx⟩ : _ ∧ _ ∧ _)
            clear HQ q1 q2 q3 hx htk HW
            generalize (⟨(acc.reverse.take (acc.length - (i + 1))).toArray⟩ : ByteArray) = O1 at *
            generalize acc[i] = xx at *
            have hsz2 : ¬ 9223372036854775807 < O1.size + 1 := by omega
            go_wp2_with fail
            go_roundw
            case rel => exact ⟨i, by omega, by go_num, by rw [← (show O1 ++ ⟨#[xx]⟩ = (⟨(acc.reverse.take (acc.length - i)).toArray⟩ : ByteArray) from HTK)], HN⟩
            case measure => first | (simp [intOf]; done) | (simp [intOf]; omega)
      · have hjI : ((j : Int) != 0) = true := by rw [bne, show ((j : Int) == 0) = false by rw [beq_eq_false_iff_ne]; omega]; rfl
        have hjn : ((j : Int) == 0) = false := by rw [beq_eq_false_iff_ne]; omega
        have hq : Int.tmod (j : Int) 10 = ((j % 10 : Nat) : Int) := rfl
        have hq2 : Int.tdiv (j : Int) 10 = ((j / 10 : Nat) : Int) := rfl
        obtain ⟨dx1, dx2⟩ := dg_ten ⟨j % 10, by omega⟩
        replace dx2 : (Fm.dg (j % 10)).toNat = 48 + j % 10 := dx2
        have hstep := Fm.wr_pos 10 j (by decide) hj0
        have hd0 : (0 : Int) ≤ ((j % 10 : Nat) : Int) := by omega
        have hd1 : ((j % 10 : Nat) : Int) < 10 := by omega
        have hdn : ¬ ((j % 10 : Nat) : Int) < 0 := by omega
        have hbc : Lib.byteCells [Fm.dg (j % 10)] = [.int .u8 (48 + ((j % 10 : Nat) : Int))] := by
          show [Value.int .u8 ((Fm.dg (j % 10)).toNat : Int)] = _
          rw [dx2]; congr 2
        have h1c := bc_one [Fm.dg (j % 10)]
        rw [hbc] at h1c
        have hlen : acc.length + 1 ≤ 64 := by
          have h1 := congrArg List.length hW
          rw [hstep, List.length_append, List.length_append, List.length_reverse] at h1
          have := (show (Fm.wr 10 n).length ≤ 64 from HWL)
          simp at h1
          omega
        have HADD : Hid (∀ (o : Obj) (v' : Value) (w5 : World), w5.ownsRow w.heap.size 5 1 v' (acc.length + 1) (Lib.byteCells acc ++ [.int .u8 (48 + ((j % 10 : Nat) : Int))]) → (wr.alloc o).grownBy w5 v.ownBlock → DcI w n (j / 10) (acc ++ [Fm.dg (j % 10)]) v' w5) :=
          (fun o v' w5 ho hg => ⟨hD.add _ (by rw [hbc]; exact ho) hg, by rw [hW, hstep, List.reverse_append]; simp, by rw [List.length_append]; simpa using hlen⟩ : ∀ (o : Obj) (v' : Value) (w5 : World), w5.ownsRow w.heap.size 5 1 v' (acc.length + 1) (Lib.byteCells acc ++ [.int .u8 (48 + ((j % 10 : Nat) : Int))]) → (wr.alloc o).grownBy w5 v.ownBlock → DcI w n (j / 10) (acc ++ [Fm.dg (j % 10)]) v' w5)
        have howna : ∀ o : Obj, (wr.alloc o).ownsRow w.heap.size 5 1 v acc.length (Lib.byteCells acc) := fun o => hD.row.alloc o
        have hs4 := hD.bel.size
        obtain ⟨jq, hjq⟩ : ∃ jq, j / 10 = jq := ⟨_, rfl⟩
        rw [hjq] at hq2 HADD
        have hjl : jq < j := by omega
        have hjw : wrap64 (jq : Int) = (jq : Int) := by
          have hM := (show M ≤ 9223372036854775807 ∧ (n : Int) ≤ M from HM)
          unfold wrap64
          omega
        clear hD hW hstep hbc dx1 dx2 hA hjq
        generalize Fm.dg (j % 10) = dd at *
        generalize ((j % 10 : Nat) : Int) = r at *
        go_wp2_with (at_builtin; refine wpList_append_own _ rfl (.tmp 20) (.tmp 24) 66 rfl w.heap.size 5 i0 (.int .u8 0) 1 1 Tryd.underlying66 HI0 hz0 hz1 hz2 rfl (by decide) _ _ _ rfl (howna _) ⟨wr.heap.size, 0, none⟩ 1 1 [.int .u8 (48 + r)] rfl rfl (qr_cells wr #[.int .u8 (48 + r)] 5 _ rfl) h1c (by unfold maxLen; omega) (by omega) (by simp; omega) ?_; intro v' w5 hown1 hgrow1 _)
        have hN := (show ∀ (o : Obj) (v' : Value) (w5 : World), w5.ownsRow w.heap.size 5 1 v' (acc.length + 1) (Lib.byteCells acc ++ [.int .u8 (48 + r)]) → (wr.alloc o).grownBy w5 v.ownBlock → DcI w n jq (acc ++ [dd]) v' w5 from HADD) _ _ _ hown1 hgrow1
        clear HADD hown1 hgrow1 howna
        go_wp2_with fail
        go_roundw
        case rel => exact ⟨jq, acc ++ [dd], v', by rw [hjw], rfl, by omega, hN⟩
        case measure =>
          rw [hjw]
          clear HWL HM hjw hq hq2
          simp [intOf]
          exact hjl
end Go.Proofs.YtogenhnonjkanaaDoor
