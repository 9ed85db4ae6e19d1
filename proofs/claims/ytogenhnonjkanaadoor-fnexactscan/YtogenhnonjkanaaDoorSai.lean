import Derived.Test.YtogenhnonjkanaaDoorSah
namespace Go.Proofs.YtogenhnonjkanaaDoor
open Go.ChangeShapes Go.WideShapes Go.ChangeAt Go.RowKit
set_option linter.unusedVariables false
/-- the scan has moved, the answer's block is as it was laid -/
def Mz (B n : Nat) (T : ByteArray) (k l : Int) (st : Bool) (w w' : World) : Prop := Mv B T k l st w w' ∧ Rz n w'
theorem Mz.trans {B n : Nat} {T : ByteArray} {k l k' l' : Int} {st st' : Bool} {a b c : World} (h : Mz B n T k l st a b) (g : Mv B T k' l' st' b c) (hn : n ≠ B) : Mz B n T k' l' st' a c := ⟨h.1.trans g, h.2.kb g.1 hn⟩
theorem Mz.start {B : Nat} {T : ByteArray} {k l : Int} {st : Bool} {w : World} (h : Sb B T k l st w) : Mz B w.heap.size T k l st w (w.alloc (.cells #[.int .i64 0, .int .i64 0, .int .i64 0, .int .i64 0, .int .i64 0, .string ⟨#[]⟩] 33)) :=
  ⟨Mv.below h ((Below.refl _ w).alloc (Nat.le_refl _) _) (Nat.le_refl _), Rz.new w⟩
theorem Mz.set1 {B n : Nat} {T : ByteArray} {k l : Int} {st : Bool} {w w' : World} (h : Mz B n T k l st w w') (hn : n ≠ B) (k' : Int) : Mz B n T k' l st w (w'.setCell ⟨B, 1, none⟩ (.int .i64 k')) :=
  ⟨⟨h.1.1.setCell 1 _, h.1.2.set1 k'⟩, by unfold Rz; rw [Below.heap_setCell _ _ _ _ hn]; exact h.2⟩
theorem Mz.drewN {B n : Nat} {T : ByteArray} {k l : Int} {st : Bool} {w w' : World} (h : Mz B n T k l st w w') (m : Nat) : Mz B n T k l st w (w'.drewN m) := ⟨⟨h.1.1.drewN m, h.1.2⟩, h.2⟩
set_option maxRecDepth 100000 in
set_option maxHeartbeats 2000000 in
theorem impl_word {B : Nat} {T : ByteArray} (L : List UInt8) (hT : T.data.toList = L) {k : Nat} {l : Int} {st : Bool} (hlen : T.size ≤ 65536) (m : Nat) (hk : k ≤ L.length) (hm : Wm (T.extract k (en isW L k)) m) (hB : 8 ≤ B) (w : World) (hg : Gd w) (h : Sb B T k l st w) :
    Calls Tryd.prog 64 #[.pointer (some ⟨B, 0, none⟩)] w fun e w' => e = .returned (tokV (wkI m) 0 0 0 0 (wkT m (T.extract k (en isW L k)))) ∧ Mv B T (en isW L k : Nat) l st w w' := by
  have hs : T.size = L.length := by rw [← hT]; simp
  have HX : IxAll T L := fun j c hj => ix T L hT j c hj
  have HIL : Hid (∀ (c : UInt8) (w : World), Calls Tryd.prog 63 #[.int .u8 (c.toNat : Int)] w fun e w' => e = .returned (.bool (isL c)) ∧ w' = w) := impl_isL
  have HID : Hid (∀ (c : UInt8) (w : World), Calls Tryd.prog 65 #[.int .u8 (c.toNat : Int)] w fun e w' => e = .returned (.bool (isD c)) ∧ w' = w) := impl_isD
  have HW : Hid (Wm (T.extract k (en isW L k)) m) := hm
  obtain ⟨M, hM, hLM⟩ : ∃ M : Int, M ≤ 65536 ∧ (L.length : Int) ≤ M := ⟨L.length, by omega, Int.le_refl _⟩
  have hel := en_le isW L k hk
  have heg := en_ge isW L k
  have hcl : Hid (T.size ≤ 65536) := hlen
  have HG : Hid (Gd w) := hg
  have hBlt : B < w.heap.size := h.lt
  have hnB : w.heap.size ≠ B := by omega
  have hz := Mz.start h
  have c1 := hz.1.2.c1
  have HS : Hid (Mz B w.heap.size T k l st w (w.alloc (.cells #[.int .i64 0, .int .i64 0, .int .i64 0, .int .i64 0, .int .i64 0, .string ⟨#[]⟩] 33))) := hz
  clear hT hlen hm hg h hz
  go_enter Tryd.func64, Tryd.ntmps64
  go_wp2_with fail
  clear c1
  go_loopw [] (fun wr => ∃ j : Nat, k ≤ j ∧ j ≤ L.length ∧ Hid (Mz B w.heap.size T j l st w wr ∧ en isW L k = en isW L j)) (fun wr => L.length - atOf B wr)
  case atStart => exact ⟨k, Nat.le_refl _, hk, (⟨HS, rfl⟩ : Mz B w.heap.size T k l st w (w.alloc (.cells #[.int .i64 0, .int .i64 0, .int .i64 0, .int .i64 0, .int .i64 0, .string ⟨#[]⟩] 33)) ∧ en isW L k = en isW L k)⟩
  case round =>
    clear HS
    obtain ⟨j, hkj, hj, HR⟩ := hrel
    obtain ⟨hK, hE⟩ := (show Mz B w.heap.size T j l st w wr ∧ en isW L k = en isW L j from HR)
    clear HR
    have hat := atOf_sb hK.1.2
    have hjM : (j : Int) ≤ M := by omega
    have b0 := hK.1.2.c0
    have b1 := hK.1.2.c1
    have f1 := hK.1.2.fz 1
    by_cases hjn : j < L.length ∧ isW (lk L j) = true
    · obtain ⟨hjn, hgo⟩ := hjn
      have hx : L[j]? = some (lk L j) := by
        have := List.getElem?_eq_getElem hjn
        rw [lk_some this]; exact this
      have hix := HX j _ hx
      have he := ended_in B T j l st false (by simp; omega) wr hK.1.2
      have hlet := (show ∀ (c : UInt8) (w : World), _ from HIL) (lk L j)
      have hdig := (show ∀ (c : UInt8) (w : World), _ from HID) (lk L j)
      have HN : Hid (∀ q, Mz B w.heap.size T ((j + 1 : Nat) : Int) l st w ((wr.drewN q).setCell ⟨B, 1, none⟩ (.int .i64 ((j : Int) + 1))) ∧ en isW L k = en isW L (j + 1)) :=
        (fun q => ⟨(hK.drewN q).set1 hnB _, hE.trans (en_step hx hgo)⟩ : ∀ q, Mz B w.heap.size T ((j + 1 : Nat) : Int) l st w ((wr.drewN q).setCell ⟨B, 1, none⟩ (.int .i64 ((j : Int) + 1))) ∧ en isW L k = en isW L (j + 1))
      clear hK hE HW HIL HID HG hcl hx HX hel heg
      cases hlv : isL (lk L j) with
      | true =>
        rw [hlv] at hlet
        clear hgo hlv hdig
        generalize ((lk L j).toNat : Int) = xi at *
        go_wp2_with fail
        go_quiet ((first | (go_at_call 40; exact he _) | (go_at_call 63; exact Calls.quiet_of_same (hlet _))))
        go_wp2_with fail
        have hN := (show ∀ q, _ from HN) nq
        refine ⟨⟨j + 1, by omega, by omega, hN⟩, ?_⟩
        rw [atOf_sb hN.1.1.2, hat]
        omega
      | false =>
        rw [hlv] at hlet
        rw [isW_of _ hlv] at hgo
        rw [hgo] at hdig
        clear hgo hlv
        generalize ((lk L j).toNat : Int) = xi at *
        go_wp2_with fail
        go_quiet ((first | (go_at_call 40; exact he _) | (go_at_call 63; exact Calls.quiet_of_same (hlet _)) | (go_at_call 65; exact Calls.quiet_of_same (hdig _))))
        go_wp2_with fail
        have hN := (show ∀ q, _ from HN) nq
        refine ⟨⟨j + 1, by omega, by omega, hN⟩, ?_⟩
        rw [atOf_sb hN.1.1.2, hat]
        omega
    · have e : en isW L k = j := by
        rw [hE]
        rcases Nat.lt_or_ge j L.length with h | h
        · have hg := List.getElem?_eq_getElem h
          exact en_stop (x := lk L j) (by rw [lk_some hg]; exact hg) (by simp at hjn; exact hjn h)
        · exact en_end h
      have hsl : ∀ W : World, (Instr.slice 9 (.string T) (some (.int .i64 (k : Int))) (some (.int .i64 (j : Int))) none).run Tryd.prog W = .ok (.string (T.extract k j)) W := by
        intro W
        rw [run_slice_string (P := Tryd.prog) W 9 T .i64 .i64 (k : Int) (j : Int) Tryd.underlying9 (by omega) (by omega) (by omega)]
        simp
      rw [e] at HW
      have HE : Hid (en isW L k = j) := e
      have HKH : Hid (Mz B w.heap.size T j l st w wr) := hK
      have HSB : Hid (Sb B T j l st wr) := hK.1.2
      have hfin : Hid (∀ W, Mz B w.heap.size T j l st wr W → True) := (fun _ _ => trivial : ∀ W, Mz B w.heap.size T j l st wr W → True)
      have HGr : Hid (Gd wr) := (show Gd w from HG).kb hB hK.1.1
      clear HG hfin hel heg hE
      have behind : ∀ nq : Nat, ∃ W : World, W = wr.drewN nq ∧ Mz B w.heap.size T j l st w W ∧ Gd W := fun nq => ⟨_, rfl, hK.drewN nq, ⟨HGr.words, HGr.marks, HGr.infx, HGr.err7, HGr.err6, HGr.size⟩⟩
      have HBH : Hid (∀ nq : Nat, ∃ W : World, W = wr.drewN nq ∧ Mz B w.heap.size T j l st w W ∧ Gd W) := behind
      clear behind HGr hK HKH
      rcases Nat.lt_or_ge j L.length with hjl | hjl
      · have hx : L[j]? = some (lk L j) := by
          have := List.getElem?_eq_getElem hjl
          rw [lk_some this]; exact this
        have hW0 : isW (lk L j) = false := by simp at hjn; exact hjn hjl
        have hlv : isL (lk L j) = false := by unfold isW at hW0; simp at hW0; exact hW0.1
        have hdv : isD (lk L j) = false := by unfold isW at hW0; simp at hW0; exact hW0.2
        have hix := HX j _ hx
        have he := ended_in B T j l st false (by simp; omega) wr (show Sb B T j l st wr from HSB)
        have hlet := (show ∀ (c : UInt8) (w : World), _ from HIL) (lk L j)
        have hdig := (show ∀ (c : UInt8) (w : World), _ from HID) (lk L j)
        rw [hlv] at hlet
        rw [hdv] at hdig
        clear HX HIL HID hx hW0 hlv hdv hjn e HSB
        generalize ((lk L j).toNat : Int) = xi at *
        go_wp2_with fail
        go_quiet ((first | (go_at_call 40; exact he _) | (go_at_call 63; exact Calls.quiet_of_same (hlet _)) | (go_at_call 65; exact Calls.quiet_of_same (hdig _))))
        go_wp2_with fail
        clear he hlet hdig hix
        obtain ⟨W, hWe, hKW, hGW⟩ := (show ∀ nq : Nat, ∃ W : World, W = wr.drewN nq ∧ Mz B w.heap.size T j l st w W ∧ Gd W from HBH) nq
        rw [← hWe]
        clear HBH b0 b1 f1 hat hWe
        have b0 := hKW.1.2.c0
        have b1 := hKW.1.2.c1
        have HKW : Hid (Mz B w.heap.size T j l st w W ∧ Gd W) := (⟨hKW, hGW⟩ : _ ∧ _)
        clear hKW hGW
        go_quiet (fail)
        obtain ⟨W2, hWe2, HK2⟩ : ∃ W2 : World, W2 = W.drewN nq ∧ Hid (Mz B w.heap.size T j l st w W2 ∧ Gd W2) := ⟨_, rfl, (⟨HKW.1.drewN nq, ⟨HKW.2.words, HKW.2.marks, HKW.2.infx, HKW.2.err7, HKW.2.err6, HKW.2.size⟩⟩ : _ ∧ _)⟩
        rw [← hWe2]
        clear hWe2 b0 b1 HKW
        have HRG : Hid (W2.rangeAt 0 0 wordsA.toList) := HK2.2.words
        go_wp2_with (refine wpList_load_mid rfl 79 (.global 0) rfl 0 0 rfl wordsA.toList _ HRG Tryd.underlying79 rfl (by kernel_rfl) ?_)
        clear HRG
        obtain ⟨hm22, hneq, hlast⟩ := (show Wm (T.extract k j) m from HW)
        clear HW
        have HNQ : Hid (∀ j', j' < m → ((wordsB j').toList == (T.extract k j).toList) = false) := hneq
        have HLA : Hid (m = 22 ∨ ((wordsB m).toList == (T.extract k j).toList) = true) := hlast
        clear hneq hlast
        go_loop [67] (fun a => ∃ i : Nat, a = .int .i64 i ∧ i ≤ m) (fun a => 22 - (intOf a).toNat)
        case atStart => exact ⟨0, rfl, Nat.zero_le _⟩
        case round =>
          obtain ⟨i, rfl, him⟩ := hrel
          by_cases hi : i < m
          · have hc := (show ∀ j', j' < m → ((wordsB j').toList == (T.extract k j).toList) = false from HNQ) i hi
            have hgi := tab_index 79 22 wordsA Tryd.underlying79 i (by omega) _ (words_get i (by omega))
            have hi22 : (i : Int) < 22 := by omega
            clear HNQ HLA HE HK2 hcl
            generalize wordsB i = X at *
            generalize T.extract k j = S at *
            go_wp2_with fail
            refine ⟨⟨i + 1, by go_num, by omega⟩, ?_⟩
            simp [intOf]; omega
          · obtain rfl : i = m := by omega
            by_cases h22 : i = 22
            · have ek : wkI i = 1 := by unfold wkI; rw [if_neg (by omega)]
              have et : wkT i (T.extract k j) = T.extract k j := by unfold wkT; rw [if_neg (by omega)]
              have HF : Hid (tokV 1 0 0 0 0 (T.extract k j) = tokV (wkI i) 0 0 0 0 (wkT i (T.extract k (en isW L k))) ∧ en isW L k = j) := by
                show _ ∧ _
                rw [show en isW L k = j from HE, ek, et]
                exact ⟨rfl, rfl⟩
              have hsize : (T.extract k j).size ≤ 281474976710656 := by rw [ByteArray.size_extract]; have := (show T.size ≤ 65536 from hcl); omega
              have hcc := clone_run (T.extract k j) hsize W2
              have hiN : ¬ (i : Int) < 22 := by omega
              clear HNQ HLA HE ek et hsize hcl h22
              generalize T.extract k j = S at *
              go_wp2_with fail
              refine hcc.mono ?_
              rintro e W3 ⟨rfl, hb3⟩
              obtain ⟨HK3, z3⟩ : Mv B T j l st w W3 ∧ Rz w.heap.size W3 := by
                have h3 := HK2.1.trans (Mv.below HK2.1.1.2 hb3 (Nat.le_refl _)) hnB
                exact ⟨h3.1, h3.2⟩
              have HKH3 : Hid (Mv B T j l st w W3) := HK3
              have g0 := z3.c0
              have g1 := z3.c1
              have g2 := z3.c2
              have g3 := z3.c3
              have g4 := z3.c4
              have g5 := z3.c5
              have y0 := z3.f0
              have y1 := z3.f1
              have y2 := z3.f2
              have y3 := z3.f3
              have y4 := z3.f4
              have y5 := z3.f5
              have e0 := st6_c0 z3
              have e1 := st6_c1 z3
              have e2 := st6_c2 z3
              have e3 := st6_c3 z3
              have e4 := st6_c4 z3
              have e5 := st6_c5 z3
              have HE6 : Hid (True) := trivial
              clear hcc hb3 HK2 HK3 z3
              go_wp2_with fail
              refine bodyPost_ret (by simp [results, Tryd.results64, go_sem, e0, e1, e2, e3, e4, e5]; rfl) rfl ?_
              refine ⟨congrArg Ending.returned HF.1, ?_⟩
              rw [HF.2]
              exact st6_mv HKH3 (Nat.le_refl _) hnB _ _ _ _ _ _
            · have hc := (show i = 22 ∨ ((wordsB i).toList == (T.extract k j).toList) = true from HLA).resolve_left h22
              have hgi := tab_index 79 22 wordsA Tryd.underlying79 i (by omega) _ (words_get i (by omega))
              have hi22 : (i : Int) < 22 := by omega
              have ek : wkI i = 10 + (i : Int) := by unfold wkI; rw [if_pos (by omega)]
              have et : wkT i (T.extract k j) = ⟨#[]⟩ := by unfold wkT; rw [if_pos (by omega)]
              have HF : Hid (tokV (10 + (i : Int)) 0 0 0 0 ⟨#[]⟩ = tokV (wkI i) 0 0 0 0 (wkT i (T.extract k (en isW L k))) ∧ en isW L k = j) := by
                show _ ∧ _
                rw [show en isW L k = j from HE, ek, et]
                exact ⟨rfl, rfl⟩
              have HKH3 : Hid (Mv B T j l st w W2) := HK2.1.1
              have z3 := HK2.1.2
              have g0 := z3.c0
              have g1 := z3.c1
              have g2 := z3.c2
              have g3 := z3.c3
              have g4 := z3.c4
              have g5 := z3.c5
              have y0 := z3.f0
              have y1 := z3.f1
              have y2 := z3.f2
              have y3 := z3.f3
              have y4 := z3.f4
              have y5 := z3.f5
              have e0 := st6_c0 z3
              have e1 := st6_c1 z3
              have e2 := st6_c2 z3
              have e3 := st6_c3 z3
              have e4 := st6_c4 z3
              have e5 := st6_c5 z3
              clear HNQ HLA HE ek et HK2 z3 hcl h22
              generalize wordsB i = X at *
              generalize T.extract k j = S at *
              go_wp2_with fail
              refine bodyPost_ret (by simp [results, Tryd.results64, go_sem, e0, e1, e2, e3, e4, e5]; rfl) rfl ?_
              refine ⟨congrArg Ending.returned HF.1, ?_⟩
              rw [HF.2]
              exact st6_mv HKH3 (Nat.le_refl _) hnB _ _ _ _ _ _
      · have he := ended_in B T j l st true (by simp; omega) wr (show Sb B T j l st wr from HSB)
        clear HX HIL HID hjn e HSB
        go_wp2_with fail
        go_quiet ((first | (go_at_call 40; exact he _)))
        go_wp2_with fail
        clear he
        obtain ⟨W, hWe, hKW, hGW⟩ := (show ∀ nq : Nat, ∃ W : World, W = wr.drewN nq ∧ Mz B w.heap.size T j l st w W ∧ Gd W from HBH) nq
        rw [← hWe]
        clear HBH b0 b1 f1 hat hWe
        have b0 := hKW.1.2.c0
        have b1 := hKW.1.2.c1
        have HKW : Hid (Mz B w.heap.size T j l st w W ∧ Gd W) := (⟨hKW, hGW⟩ : _ ∧ _)
        clear hKW hGW
        go_quiet (fail)
        obtain ⟨W2, hWe2, HK2⟩ : ∃ W2 : World, W2 = W.drewN nq ∧ Hid (Mz B w.heap.size T j l st w W2 ∧ Gd W2) := ⟨_, rfl, (⟨HKW.1.drewN nq, ⟨HKW.2.words, HKW.2.marks, HKW.2.infx, HKW.2.err7, HKW.2.err6, HKW.2.size⟩⟩ : _ ∧ _)⟩
        rw [← hWe2]
        clear hWe2 b0 b1 HKW
        have HRG : Hid (W2.rangeAt 0 0 wordsA.toList) := HK2.2.words
        go_wp2_with (refine wpList_load_mid rfl 79 (.global 0) rfl 0 0 rfl wordsA.toList _ HRG Tryd.underlying79 rfl (by kernel_rfl) ?_)
        clear HRG
        obtain ⟨hm22, hneq, hlast⟩ := (show Wm (T.extract k j) m from HW)
        clear HW
        have HNQ : Hid (∀ j', j' < m → ((wordsB j').toList == (T.extract k j).toList) = false) := hneq
        have HLA : Hid (m = 22 ∨ ((wordsB m).toList == (T.extract k j).toList) = true) := hlast
        clear hneq hlast
        go_loop [67] (fun a => ∃ i : Nat, a = .int .i64 i ∧ i ≤ m) (fun a => 22 - (intOf a).toNat)
        case atStart => exact ⟨0, rfl, Nat.zero_le _⟩
        case round =>
          obtain ⟨i, rfl, him⟩ := hrel
          by_cases hi : i < m
          · have hc := (show ∀ j', j' < m → ((wordsB j').toList == (T.extract k j).toList) = false from HNQ) i hi
            have hgi := tab_index 79 22 wordsA Tryd.underlying79 i (by omega) _ (words_get i (by omega))
            have hi22 : (i : Int) < 22 := by omega
            clear HNQ HLA HE HK2 hcl
            generalize wordsB i = X at *
            generalize T.extract k j = S at *
            go_wp2_with fail
            refine ⟨⟨i + 1, by go_num, by omega⟩, ?_⟩
            simp [intOf]; omega
          · obtain rfl : i = m := by omega
            by_cases h22 : i = 22
            · have ek : wkI i = 1 := by unfold wkI; rw [if_neg (by omega)]
              have et : wkT i (T.extract k j) = T.extract k j := by unfold wkT; rw [if_neg (by omega)]
              have HF : Hid (tokV 1 0 0 0 0 (T.extract k j) = tokV (wkI i) 0 0 0 0 (wkT i (T.extract k (en isW L k))) ∧ en isW L k = j) := by
                show _ ∧ _
                rw [show en isW L k = j from HE, ek, et]
                exact ⟨rfl, rfl⟩
              have hsize : (T.extract k j).size ≤ 281474976710656 := by rw [ByteArray.size_extract]; have := (show T.size ≤ 65536 from hcl); omega
              have hcc := clone_run (T.extract k j) hsize W2
              have hiN : ¬ (i : Int) < 22 := by omega
              clear HNQ HLA HE ek et hsize hcl h22
              generalize T.extract k j = S at *
              go_wp2_with fail
              refine hcc.mono ?_
              rintro e W3 ⟨rfl, hb3⟩
              obtain ⟨HK3, z3⟩ : Mv B T j l st w W3 ∧ Rz w.heap.size W3 := by
                have h3 := HK2.1.trans (Mv.below HK2.1.1.2 hb3 (Nat.le_refl _)) hnB
                exact ⟨h3.1, h3.2⟩
              have HKH3 : Hid (Mv B T j l st w W3) := HK3
              have g0 := z3.c0
              have g1 := z3.c1
              have g2 := z3.c2
              have g3 := z3.c3
              have g4 := z3.c4
              have g5 := z3.c5
              have y0 := z3.f0
              have y1 := z3.f1
              have y2 := z3.f2
              have y3 := z3.f3
              have y4 := z3.f4
              have y5 := z3.f5
              have e0 := st6_c0 z3
              have e1 := st6_c1 z3
              have e2 := st6_c2 z3
              have e3 := st6_c3 z3
              have e4 := st6_c4 z3
              have e5 := st6_c5 z3
              have HE6 : Hid (True) := trivial
              clear hcc hb3 HK2 HK3 z3
              go_wp2_with fail
              refine bodyPost_ret (by simp [results, Tryd.results64, go_sem, e0, e1, e2, e3, e4, e5]; rfl) rfl ?_
              refine ⟨congrArg Ending.returned HF.1, ?_⟩
              rw [HF.2]
              exact st6_mv HKH3 (Nat.le_refl _) hnB _ _ _ _ _ _
            · have hc := (show i = 22 ∨ ((wordsB i).toList == (T.extract k j).toList) = true from HLA).resolve_left h22
              have hgi := tab_index 79 22 wordsA Tryd.underlying79 i (by omega) _ (words_get i (by omega))
              have hi22 : (i : Int) < 22 := by omega
              have ek : wkI i = 10 + (i : Int) := by unfold wkI; rw [if_pos (by omega)]
              have et : wkT i (T.extract k j) = ⟨#[]⟩ := by unfold wkT; rw [if_pos (by omega)]
              have HF : Hid (tokV (10 + (i : Int)) 0 0 0 0 ⟨#[]⟩ = tokV (wkI i) 0 0 0 0 (wkT i (T.extract k (en isW L k))) ∧ en isW L k = j) := by
                show _ ∧ _
                rw [show en isW L k = j from HE, ek, et]
                exact ⟨rfl, rfl⟩
              have HKH3 : Hid (Mv B T j l st w W2) := HK2.1.1
              have z3 := HK2.1.2
              have g0 := z3.c0
              have g1 := z3.c1
              have g2 := z3.c2
              have g3 := z3.c3
              have g4 := z3.c4
              have g5 := z3.c5
              have y0 := z3.f0
              have y1 := z3.f1
              have y2 := z3.f2
              have y3 := z3.f3
              have y4 := z3.f4
              have y5 := z3.f5
              have e0 := st6_c0 z3
              have e1 := st6_c1 z3
              have e2 := st6_c2 z3
              have e3 := st6_c3 z3
              have e4 := st6_c4 z3
              have e5 := st6_c5 z3
              clear HNQ HLA HE ek et HK2 z3 hcl h22
              generalize wordsB i = X at *
              generalize T.extract k j = S at *
              go_wp2_with fail
              refine bodyPost_ret (by simp [results, Tryd.results64, go_sem, e0, e1, e2, e3, e4, e5]; rfl) rfl ?_
              refine ⟨congrArg Ending.returned HF.1, ?_⟩
              rw [HF.2]
              exact st6_mv HKH3 (Nat.le_refl _) hnB _ _ _ _ _ _
end Go.Proofs.YtogenhnonjkanaaDoor
