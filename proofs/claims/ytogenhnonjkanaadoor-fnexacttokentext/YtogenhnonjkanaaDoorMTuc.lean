import Derived.Test.YtogenhnonjkanaaDoorMQsh
import Derived.Deep.RegionHeldLaw
import Derived.BigRegion
namespace Go.Proofs.YtogenhnonjkanaaDoor
open Go.ChangeShapes Go.WideShapes Go.ChangeAt Go.RowKit
set_option linter.unusedVariables false
theorem conv_lit (W : World) (l : List UInt8) (cs : Array Value) (hc : cs.toList = Lib.byteCells l) (n c : Nat) (hn : n = l.length) (hl : l ≠ []) :
    (convert 66 9 (.slice (some ⟨W.heap.size, 0, none⟩) n c)).run Tryd.prog (W.alloc (.cells cs 5)) = .ok (.string ⟨l.toArray⟩) (W.alloc (.cells cs 5)) := by
  subst hn
  refine run_convert_bytes_back _ 66 9 5 _ c l Tryd.underlying66 Tryd.underlying5 Tryd.underlying9 (fun j hj => ?_)
  exact qr_cells W cs 5 (Lib.byteCells l) hc j _ (by simp [Lib.byteCells, hj])
set_option maxHeartbeats 1000000 in
theorem impl_el (x : UInt8) (w : World) :
    Calls Tryd.prog 49 #[.int .u8 (x.toNat : Int)] w fun e w' => e = .returned (.string ⟨(qel x).toArray⟩) ∧ Below w.heap.size w w' := by
  have hxl := x.toNat_lt
  by_cases hc : x.toNat = 10
  · have hq : qel x = [92, 110] := by unfold qel; rw [if_pos hc]
    have hxi : (x.toNat : Int) = 10 := by omega
    rw [hq, hxi]
    clear hq hxi hxl hc 
    go_enter Tryd.func49, Tryd.ntmps49
    go_wp2
    go_ret
    exact ⟨rfl, Below.refl _ _⟩
  have n10 := hc
  clear hc
  by_cases hc : x.toNat = 9
  · have hq : qel x = [92, 116] := by unfold qel; rw [if_neg n10, if_pos hc]
    have hxi : (x.toNat : Int) = 9 := by omega
    rw [hq, hxi]
    clear hq hxi hxl hc n10
    go_enter Tryd.func49, Tryd.ntmps49
    go_wp2
    go_ret
    exact ⟨rfl, Below.refl _ _⟩
  have n9 := hc
  clear hc
  by_cases hc : x.toNat = 34
  · have hq : qel x = [92, 34] := by unfold qel; rw [if_neg n10, if_neg n9, if_pos hc]
    have hxi : (x.toNat : Int) = 34 := by omega
    rw [hq, hxi]
    clear hq hxi hxl hc n10 n9
    go_enter Tryd.func49, Tryd.ntmps49
    go_wp2
    go_ret
    exact ⟨rfl, Below.refl _ _⟩
  have n34 := hc
  clear hc
  by_cases hc : x.toNat = 92
  · have hq : qel x = [92, 92] := by unfold qel; rw [if_neg n10, if_neg n9, if_neg n34, if_pos hc]
    have hxi : (x.toNat : Int) = 92 := by omega
    rw [hq, hxi]
    clear hq hxi hxl hc n10 n9 n34
    go_enter Tryd.func49, Tryd.ntmps49
    go_wp2
    go_ret
    exact ⟨rfl, Below.refl _ _⟩
  have n92 := hc
  clear hc
  have i1 : ((x.toNat : Int) == 10) = false := by simp; omega
  have i2 : ((x.toNat : Int) == 9) = false := by simp; omega
  have i3 : ((x.toNat : Int) == 34) = false := by simp; omega
  have i4 : ((x.toNat : Int) == 92) = false := by simp; omega
  by_cases hc : x.toNat < 32 ∨ 126 < x.toNat
  · have hq : qel x = [92, 120, hx (x.toNat / 16), hx (x.toNat % 16)] := by unfold qel; rw [if_neg n10, if_neg n9, if_neg n34, if_neg n92, if_pos hc]
    rw [hq]
    have hi1 := ixh (x.toNat / 16) (by omega)
    have hi2 := ixh (x.toNat % 16) (by omega)
    have hcv := fun W : World => conv_lit W [92, 120, hx (x.toNat / 16), hx (x.toNat % 16)] #[.int .u8 92, .int .u8 120, .int .u8 ((hx (x.toNat / 16)).toNat : Int), .int .u8 ((hx (x.toNat % 16)).toNat : Int)] rfl 4 4 rfl (by simp)
    have hcc : (x.toNat : Int) < 32 ∨ (¬ (x.toNat : Int) < 32 ∧ 126 < (x.toNat : Int)) := by omega
    rw [show ((x.toNat / 16 : Nat) : Int) = (x.toNat : Int) / 16 by omega] at hi1
    rw [show ((x.toNat % 16 : Nat) : Int) = (x.toNat : Int) % 16 by omega] at hi2
    generalize hd1 : ((hx (x.toNat / 16)).toNat : Int) = d1 at hi1 hcv
    generalize hd2 : ((hx (x.toNat % 16)).toNat : Int) = d2 at hi2 hcv
    generalize hR : (ByteArray.mk [92, 120, hx (x.toNat / 16), hx (x.toNat % 16)].toArray) = R at hcv ⊢
    generalize hd0 : (x.toNat : Int) = xi at hi1 hi2 i1 i2 i3 i4 hcc ⊢
    have hx0 : 0 ≤ xi := by omega
    have hx1 : xi < 256 := by omega
    have hbt : bits BinOp.and IntKind.u8 xi 15 = xi % 16 := by go_bits; trivial
    generalize xi % 16 = r2 at hbt hi2
    have hcvd : ∀ W : World, (convert 66 9 (.slice (some ⟨W.heap.size, 0, none⟩) 4 4)).run Tryd.prog (W.alloc (.cells #[.int .u8 92, .int .u8 120, .int .u8 d1, .int .u8 d2] 5)).drew = .ok (.string R) (W.alloc (.cells #[.int .u8 92, .int .u8 120, .int .u8 d1, .int .u8 d2] 5)).drew := fun W => hcv W.drew
    clear n10 n9 n34 n92 hc hd1 hd2 hR hd0 hxl hq
    rcases hcc with hcc | ⟨i5, hcc⟩
    all_goals
      go_enter Tryd.func49, Tryd.ntmps49
      go_wp2_with fail
      go_region_held_law (fun _ => True) (trivial) (fail)
      all_goals
        go_wp2
        go_ret
        exact ⟨rfl, ((Below.refl _ w).alloc (Nat.le_refl _) _).drew⟩
  · have hq : qel x = [x] := by unfold qel; rw [if_neg n10, if_neg n9, if_neg n34, if_neg n92, if_neg hc]
    rw [hq]
    have hcv := conv_lit w [x] #[.int .u8 (x.toNat : Int)] rfl 1 1 rfl (by simp)
    have i5 : ¬ (x.toNat : Int) < 32 := by omega
    have i6 : ¬ 126 < (x.toNat : Int) := by omega
    generalize hR : (ByteArray.mk [x].toArray) = R at hcv ⊢
    generalize hd0 : (x.toNat : Int) = xi at i1 i2 i3 i4 i5 i6 hcv ⊢
    clear n10 n9 n34 n92 hc hR hd0 hxl hq
    go_enter Tryd.func49, Tryd.ntmps49
    go_wp2
    go_ret
    exact ⟨rfl, (Below.refl _ w).alloc (Nat.le_refl _) _⟩
theorem bld_below {T e : TypeId} {B b : Nat} {p : Value} {bs : List Value} {w w' : World} (h : Lib.BuilderAt T e B b p bs w) (hb : Below w.heap.size w w') : Lib.BuilderAt T e B b p bs w' := by
  obtain ⟨h1, v, h2, h3, h4⟩ := h
  have hlt : b < w.heap.size := by
    rcases Nat.lt_or_ge b w.heap.size with h' | h'
    · exact h'
    · rw [Array.getElem?_eq_none h'] at h2; cases h2
  refine ⟨h1, v, (hb.block b hlt).trans h2, ?_, h4⟩
  refine ⟨h3.1, ?_⟩
  rcases h3.2 with h | ⟨g, cap, cur, e1, e2, e3, e4⟩
  · exact .inl h
  · have hg : g < w.heap.size := by
      rcases Nat.lt_or_ge g w.heap.size with h' | h'
      · exact h'
      · rw [Array.getElem?_eq_none h'] at e3; cases e3
    exact .inr ⟨g, cap, cur, e1, e2, (hb.block g hg).trans e3, e4⟩
theorem sc_bytes (l : List UInt8) : Lib.strCells ⟨l.toArray⟩ = Lib.byteCells l := by simp [Lib.strCells, Lib.byteCells]
set_option maxRecDepth 100000 in
set_option maxHeartbeats 1000000 in
theorem impl_quote (T : ByteArray) (L : List UInt8) (hT : T.data.toList = L) (hlen : L.length ≤ 4000) (w : World) :
    Calls Tryd.prog 26 #[.string T] w fun e w' => e = .returned (.string ⟨(quo L L.length ++ [34]).toArray⟩) ∧ Below w.heap.size w w' := by
  have hsz : T.size = L.length := by rw [← hT]; simp
  have HX := fun k c hk => ix T L hT k c hk
  have h0 := Lib.fresh_isBuilder 69 5 w
  have hb0 : Below w.heap.size w (w.alloc (.cells #[.pointer none, .slice none 0 0] 69)) := (Below.refl _ w).alloc (Nat.le_refl _) _
  have c0 := bldByte w.heap.size w.heap.size [] 34 _ h0 (by simp) (by simp)
  clear h0
  have hn1 : ¬ (4000 : Int) < (T.size : Int) := by omega
  go_enter Tryd.func26, Tryd.ntmps26
  go_wp2_with fail
  refine c0.mono ?_
  rintro e w1 ⟨rfl, hB1, hb1⟩
  clear c0
  have HS : Hid (Lib.BuilderAt 69 5 w.heap.size w.heap.size (.pointer (some ⟨w.heap.size, 0, none⟩)) (Lib.byteCells (quo L 0)) w1 ∧ Below w.heap.size w w1) := (⟨by rw [quo_zero]; exact hB1, hb0.trans hb1⟩ : _ ∧ _)
  clear hB1 hb1 hb0
  go_wp2_with fail
  go_loopw [11] (fun i wr => ∃ k : Nat, k ≤ L.length ∧ i = .int .i64 k ∧ Hid (Lib.BuilderAt 69 5 w.heap.size w.heap.size (.pointer (some ⟨w.heap.size, 0, none⟩)) (Lib.byteCells (quo L k)) wr ∧ Below w.heap.size w wr)) (fun i _ => L.length - (intOf i).toNat)
  case atStart => exact ⟨0, by omega, rfl, HS⟩
  case round =>
    clear HS
    obtain ⟨k, hk, rfl, HS⟩ := hrel
    obtain ⟨hB, hb⟩ := (show Lib.BuilderAt 69 5 w.heap.size w.heap.size (.pointer (some ⟨w.heap.size, 0, none⟩)) (Lib.byteCells (quo L k)) wr ∧ Below w.heap.size w wr from HS)
    have hql := quo_len L k
    clear HS
    by_cases hkn : k < L.length
    · have hxx : L[k]? = some L[k] := List.getElem?_eq_getElem hkn
      have hgx := HX k L[k] hxx
      have hqs := quo_succ L k L[k] hxx
      generalize L[k] = x at hgx hqs
      have hel := impl_el x wr
      have hcs : ∀ w', Below wr.heap.size wr w' → Calls Tryd.prog 48 #[.pointer (some ⟨w.heap.size, 0, none⟩), .string ⟨(qel x).toArray⟩] w' fun e w'' => e = .returned (.tuple #[.int .i64 ((⟨(qel x).toArray⟩ : ByteArray).size : Int), .nilIface]) ∧ Hid (Lib.BuilderAt 69 5 w.heap.size w.heap.size (.pointer (some ⟨w.heap.size, 0, none⟩)) (Lib.byteCells (quo L (k + 1))) w'' ∧ Below w.heap.size w w'') := by
        intro w' hw'
        refine (bldString w.heap.size w.heap.size _ ⟨(qel x).toArray⟩ w' (Or.inr (bld_below hB hw')) ?_ ?_).mono ?_
        · rw [bc_len]
          have := qel_len x
          have e : (⟨(qel x).toArray⟩ : ByteArray).size = (qel x).length := by simp [ByteArray.size]
          omega
        · have h1 := hb.size; have h2 := hw'.size; omega
        · rintro e w'' ⟨rfl, h1, h2⟩
          refine ⟨rfl, (⟨?_, (hb.trans (hw'.mono hb.size)).trans h2⟩ : _ ∧ _)⟩
          rw [hqs, bc_append]
          rw [sc_bytes] at h1
          exact h1
      clear HX hT hxx hqs hB hb hql
      have hkk : (k : Int) < 4000 := by omega
      generalize (x.toNat : Int) = xi at *
      generalize (ByteArray.mk (qel x).toArray) = E at *
      go_wp2_with fail
      refine hel.mono ?_
      rintro e w2 ⟨rfl, hb2⟩
      have hcs2 := hcs w2 hb2
      clear hel hcs hb2
      go_wp2_with fail
      refine hcs2.mono ?_
      rintro e w3 ⟨rfl, HS⟩
      clear hcs2
      go_wp2_with fail
      go_roundw
      case rel => exact ⟨k + 1, by omega, by go_num, HS⟩
      case measure => simp [intOf]; omega
    · obtain rfl : k = L.length := by omega
      have hcs := bldByte w.heap.size w.heap.size _ 34 wr (Or.inr hB) (by rw [bc_len]; omega) hb.size
      have hfin : ∀ w1, Lib.BuilderAt 69 5 w.heap.size w.heap.size (.pointer (some ⟨w.heap.size, 0, none⟩)) (Lib.byteCells (quo L L.length) ++ [.int .u8 34]) w1 → Below w.heap.size wr w1 → Calls Tryd.prog 50 #[.pointer (some ⟨w.heap.size, 0, none⟩)] w1 fun e w' => e = .returned (.string ⟨(quo L L.length ++ [34]).toArray⟩) ∧ Below w.heap.size w w' := by
        intro w1 h1 h2
        refine (bldText w.heap.size w.heap.size (quo L L.length ++ [34]) w1 (Or.inr (by rw [bc_append]; exact h1)) (hb.trans h2).size).mono ?_
        rintro e w' ⟨rfl, h3⟩
        exact ⟨rfl, (hb.trans h2).trans h3⟩
      clear HX hT hql hB hb
      go_wp2_with fail
      refine hcs.mono ?_
      rintro e w1 ⟨rfl, h1, h2⟩
      have hf := hfin w1 h1 h2
      clear hfin hcs h1 h2
      go_wp2_with fail
      refine hf.mono ?_
      rintro e w2 ⟨rfl, h3⟩
      clear hf
      go_wp2_with fail
      go_ret
      exact ⟨rfl, h3⟩
end Go.Proofs.YtogenhnonjkanaaDoor
