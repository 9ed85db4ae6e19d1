import Derived.Test.YtogenhnonjkanaaDoorMRaa
namespace Go.Proofs.YtogenhnonjkanaaDoor
open Go.ChangeShapes Go.WideShapes Go.ChangeAt Go.RowKit
set_option linter.unusedVariables false
/-- a digit of a base -/
def dgb (b : Nat) (c : UInt8) : Bool := decide (Rd.dw c < b)
theorem dgb_ten (c : UInt8) : dgb 10 c = isD c := by
  rw [Bool.eq_iff_iff]
  unfold dgb Rd.dw isD
  rw [decide_eq_true_iff, Bool.and_eq_true, decide_eq_true_iff, decide_eq_true_iff]
  constructor
  · intro h
    split at h
    · rename_i g; exact g
    · split at h <;> omega
  · rintro ⟨h1, h2⟩
    rw [if_pos ⟨h1, h2⟩]
    omega
theorem en_congr {p q : UInt8 → Bool} (h : ∀ c, p c = q c) (L : List UInt8) (k : Nat) : en p L k = en q L k := by
  have : p = q := funext h
  rw [this]
set_option maxRecDepth 100000 in
set_option maxHeartbeats 2000000 in
theorem impl_digits {B : Nat} {T : ByteArray} (L : List UInt8) (hT : T.data.toList = L) {k : Nat} {l : Int} {st : Bool} (b : Nat) (hb : b ≤ 36) (hlen : T.size ≤ 65536) (hk : k ≤ L.length) (w : World) (h : Sb B T k l st w) :
    Calls Tryd.prog 77 #[.pointer (some ⟨B, 0, none⟩), .int .i64 (b : Int)] w fun e w' => e = .returned (.string (T.extract k (en (dgb b) L k))) ∧ Mv B T (en (dgb b) L k : Nat) l st w w' := by
  have hs : T.size = L.length := by rw [← hT]; simp
  have HX : IxAll T L := fun j c hj => ix T L hT j c hj
  have HID : Hid (∀ (c : UInt8) (w : World), Calls Tryd.prog 91 #[.int .u8 (c.toNat : Int)] w fun e w' => e = .returned (.int .i64 (Rd.dw c : Int)) ∧ w' = w) := Rd.impl_dig
  obtain ⟨M, hM, hLM⟩ : ∃ M : Int, M ≤ 65536 ∧ (L.length : Int) ≤ M := ⟨L.length, by omega, Int.le_refl _⟩
  have c1 := h.c1
  have HS : Hid (Mv B T k l st w w) := Mv.refl h
  have hbI : (b : Int) ≤ 36 := by omega
  clear hT hlen h
  go_enter Tryd.func77, Tryd.ntmps77
  go_wp2_with fail
  clear c1
  go_loopw [] (fun wr => ∃ j : Nat, k ≤ j ∧ j ≤ L.length ∧ Hid (Mv B T j l st w wr ∧ en (dgb b) L k = en (dgb b) L j)) (fun wr => L.length - atOf B wr)
  case atStart => exact ⟨k, Nat.le_refl _, hk, (⟨HS, rfl⟩ : Mv B T k l st w w ∧ en (dgb b) L k = en (dgb b) L k)⟩
  case round =>
    clear HS
    obtain ⟨j, hkj, hj, HR⟩ := hrel
    obtain ⟨hK, hE⟩ := (show Mv B T j l st w wr ∧ en (dgb b) L k = en (dgb b) L j from HR)
    clear HR
    have hat := atOf_sb hK.2
    have hjM : (j : Int) ≤ M := by omega
    have b0 := hK.2.c0
    have b1 := hK.2.c1
    have f1 := hK.2.fz 1
    have hsl : ∀ W : World, (Instr.slice 9 (.string T) (some (.int .i64 (k : Int))) (some (.int .i64 (j : Int))) none).run Tryd.prog W = .ok (.string (T.extract k j)) W := by
      intro W
      rw [run_slice_string (P := Tryd.prog) W 9 T .i64 .i64 (k : Int) (j : Int) Tryd.underlying9 (by omega) (by omega) (by omega)]
      simp
    rcases Nat.lt_or_ge j L.length with hjn | hjn
    · have hx := List.getElem?_eq_getElem hjn
      have hix := HX j _ hx
      generalize L[j] = x at hx hix
      have he := ended_in B T j l st false (by simp; omega) wr hK.2
      have hdig := (show ∀ (c : UInt8) (w : World), _ from HID) x
      by_cases hgo : dgb b x = true
      · have hd2 : (Rd.dw x : Int) < (b : Int) := by unfold dgb at hgo; simp at hgo; omega
        have HN : Hid (∀ q, Mv B T ((j + 1 : Nat) : Int) l st w ((wr.drewN q).setCell ⟨B, 1, none⟩ (.int .i64 ((j : Int) + 1))) ∧ en (dgb b) L k = en (dgb b) L (j + 1)) :=
          (fun q => ⟨⟨(hK.1.drewN q).setCell 1 _, (hK.2.drewN q).set1 _⟩, hE.trans (en_step hx hgo)⟩ : ∀ q, Mv B T ((j + 1 : Nat) : Int) l st w ((wr.drewN q).setCell ⟨B, 1, none⟩ (.int .i64 ((j : Int) + 1))) ∧ en (dgb b) L k = en (dgb b) L (j + 1))
        clear hK hE HID HX hx hgo hsl
        generalize (Rd.dw x : Int) = dd at *
        generalize (x.toNat : Int) = xi at *
        go_wp2_with fail
        go_quiet ((first | (go_at_call 40; exact he _) | (go_at_call 91; exact Calls.quiet_of_same (hdig _))))
        go_wp2_with fail
        have hN := (show ∀ q, _ from HN) nq
        refine ⟨⟨j + 1, by omega, by omega, hN⟩, ?_⟩
        rw [atOf_sb hN.1.2, hat]
        omega
      · have hd2 : ¬ (Rd.dw x : Int) < (b : Int) := by unfold dgb at hgo; simp at hgo; omega
        have e : en (dgb b) L k = j := hE.trans (en_stop hx (by simpa using hgo))
        have HE : Hid (en (dgb b) L k = j) := e
        have HKA : Hid (∀ q, Mv B T j l st w (wr.drewN q)) := (fun q => ⟨hK.1.drewN q, hK.2⟩ : ∀ q, Mv B T j l st w (wr.drewN q))
        clear hK hE HID HX hx hgo e
        generalize (Rd.dw x : Int) = dd at *
        generalize (x.toNat : Int) = xi at *
        go_wp2_with fail
        go_quiet ((first | (go_at_call 40; exact he _) | (go_at_call 91; exact Calls.quiet_of_same (hdig _))))
        go_wp2_with fail
        clear he hdig hix
        obtain ⟨W, hWe, hKW⟩ : ∃ W, W = wr.drewN nq ∧ Mv B T j l st w W := ⟨_, rfl, (show ∀ q, _ from HKA) nq⟩
        rw [← hWe]
        clear b0 b1 f1 hat hWe HKA
        have b0 := hKW.2.c0
        have b1 := hKW.2.c1
        have HKW : Hid (Mv B T j l st w W) := hKW
        clear hKW
        go_quiet (fail)
        go_wp2_with fail
        go_ret
        have hEE := (show en (dgb b) L k = j from HE)
        rw [hEE]
        exact ⟨rfl, (show Mv B T j l st w W from HKW).1.drewN _, (show Mv B T j l st w W from HKW).2⟩
    · have he := ended_in B T j l st true (by simp; omega) wr hK.2
      have e : en (dgb b) L k = j := hE.trans (en_end hjn)
      have HE : Hid (en (dgb b) L k = j) := e
      have HKA : Hid (∀ q, Mv B T j l st w (wr.drewN q)) := (fun q => ⟨hK.1.drewN q, hK.2⟩ : ∀ q, Mv B T j l st w (wr.drewN q))
      clear hK hE HID HX e
      go_wp2_with fail
      go_quiet ((first | (go_at_call 40; exact he _)))
      go_wp2_with fail
      clear he
      obtain ⟨W, hWe, hKW⟩ : ∃ W, W = wr.drewN nq ∧ Mv B T j l st w W := ⟨_, rfl, (show ∀ q, _ from HKA) nq⟩
      rw [← hWe]
      clear b0 b1 f1 hat hWe HKA
      have b0 := hKW.2.c0
      have b1 := hKW.2.c1
      have HKW : Hid (Mv B T j l st w W) := hKW
      clear hKW
      go_quiet (fail)
      go_wp2_with fail
      go_ret
      have hEE := (show en (dgb b) L k = j from HE)
      rw [hEE]
      exact ⟨rfl, (show Mv B T j l st w W from HKW).1.drewN _, (show Mv B T j l st w W from HKW).2⟩
end Go.Proofs.YtogenhnonjkanaaDoor
namespace Go.Proofs.YtogenhnonjkanaaDoor
open Go.ChangeShapes Go.WideShapes Go.ChangeAt Go.RowKit
set_option linter.unusedVariables false
/-- no hexadecimal digit stands there -/
def NoHex (L : List UInt8) (j : Nat) : Prop := L.length ≤ j ∨ ∃ x, L[j]? = some x ∧ 16 ≤ Rd.dw x
theorem nohex_or (L : List UInt8) (j : Nat) : NoHex L j ∨ ∃ x, L[j]? = some x ∧ Rd.dw x < 16 := by
  cases h : L[j]? with
  | none => exact .inl (.inl (List.getElem?_eq_none_iff.1 h))
  | some x =>
    rcases Nat.lt_or_ge (Rd.dw x) 16 with g | g
    · exact .inr ⟨x, rfl, g⟩
    · exact .inl (.inr ⟨x, h, g⟩)
set_option maxRecDepth 100000 in
set_option maxHeartbeats 2000000 in
theorem hexbyte_a {B : Nat} {T : ByteArray} (L : List UInt8) (hT : T.data.toList = L) {j : Nat} {l : Int} {st : Bool} (hlen : T.size ≤ 65536) (hj : j ≤ L.length) (hno : NoHex L j) (w : World) (h : Sb B T j l st w) :
    Calls Tryd.prog 93 #[.pointer (some ⟨B, 0, none⟩)] w fun e w' => e = .returned (.tuple #[.int .u8 0, .bool false]) ∧ Mv B T j l st w w' := by
  have m0 := Mv.refl h
  clear h
  have hs : T.size = L.length := by rw [← hT]; simp
  have HX : IxAll T L := fun j c hj => ix T L hT j c hj
  have HID : Hid (∀ (c : UInt8) (w : World), Calls Tryd.prog 91 #[.int .u8 (c.toNat : Int)] w fun e w' => e = .returned (.int .i64 (Rd.dw c : Int)) ∧ w' = w) := Rd.impl_dig
  obtain ⟨M, hM, hLM⟩ : ∃ M : Int, M ≤ 65536 ∧ (L.length : Int) ≤ M := ⟨L.length, by omega, Int.le_refl _⟩
  clear hT hlen
  go_enter Tryd.func93, Tryd.ntmps93
  go_wp2_with fail
  refine wp_loop_rounds 1 ?_
  rw [rounds_succ]
  rcases hno with hend | ⟨y, hy, hyd⟩
  · have he := ended_in B T (j : Int) l st true (by simp; omega) w m0.2
    have b0 := m0.2.c0
    have b1 := m0.2.c1
    have HF : Hid (∀ q, Mv B T (j : Int) l st w (w.drewN q)) := (fun q => ⟨m0.1.drewN q, m0.2⟩ : ∀ q, Mv B T (j : Int) l st w (w.drewN q))
    clear HX HID m0
    go_wp2_with fail
    go_quiet ((first | (go_at_call 40; exact he _)))
    go_wp2_with fail
    go_ret2
    exact ⟨rfl, (show ∀ q, _ from HF) nq⟩
  · have hlt : j < L.length := (List.getElem?_eq_some_iff.1 hy).1
    have he := ended_in B T (j : Int) l st false (by simp; omega) w m0.2
    have b0 := m0.2.c0
    have b1 := m0.2.c1
    have hix := HX _ _ hy
    have hdig := (show ∀ (c : UInt8) (w : World), _ from HID) y
    have hyI : (16 : Int) ≤ (Rd.dw y : Int) := by omega
    have HF : Hid (∀ q, Mv B T (j : Int) l st w (w.drewN q)) := (fun q => ⟨m0.1.drewN q, m0.2⟩ : ∀ q, Mv B T (j : Int) l st w (w.drewN q))
    clear HX HID m0 hy hyd hlt
    generalize (Rd.dw y : Int) = dd at *
    generalize (y.toNat : Int) = yi at *
    go_wp2_with fail
    go_quiet ((first | (go_at_call 40; exact he _) | (go_at_call 91; exact Calls.quiet_of_same (hdig _))))
    go_wp2_with fail
    go_ret2
    exact ⟨rfl, (show ∀ q, _ from HF) nq⟩
set_option maxRecDepth 100000 in
set_option maxHeartbeats 2000000 in
theorem hexbyte_b {B : Nat} {T : ByteArray} (L : List UInt8) (hT : T.data.toList = L) {j : Nat} {l : Int} {st : Bool} (hlen : T.size ≤ 65536) (hj : j ≤ L.length) (x : UInt8) (hx : L[j]? = some x) (hxd : Rd.dw x < 16) (j1 : Nat) (hj1 : j1 = j + 1) (hno : NoHex L j1) (w : World) (h : Sb B T j l st w) :
    Calls Tryd.prog 93 #[.pointer (some ⟨B, 0, none⟩)] w fun e w' => e = .returned (.tuple #[.int .u8 0, .bool false]) ∧ Mv B T (j1 : Int) l st w w' := by
  have m0 := Mv.refl h
  have HJ1 : Hid (j1 = j + 1) := hj1
  clear h hj1
  have hs : T.size = L.length := by rw [← hT]; simp
  have HX : IxAll T L := fun j c hj => ix T L hT j c hj
  have HID : Hid (∀ (c : UInt8) (w : World), Calls Tryd.prog 91 #[.int .u8 (c.toNat : Int)] w fun e w' => e = .returned (.int .i64 (Rd.dw c : Int)) ∧ w' = w) := Rd.impl_dig
  obtain ⟨M, hM, hLM⟩ : ∃ M : Int, M ≤ 65536 ∧ (L.length : Int) ≤ M := ⟨L.length, by omega, Int.le_refl _⟩
  clear hT hlen
  go_enter Tryd.func93, Tryd.ntmps93
  go_wp2_with fail
  refine wp_loop_rounds 2 ?_
  rw [rounds_succ]
  have hlt1 : j < L.length := (List.getElem?_eq_some_iff.1 hx).1
  have he := ended_in B T (j : Int) l st false (by simp; omega) w m0.2
  have b0 := m0.2.c0
  have b1 := m0.2.c1
  have hix := HX _ _ hx
  have hdig := (show ∀ (c : UInt8) (w : World), _ from HID) x
  have hxI : (Rd.dw x : Int) < 16 := by omega
  have hx0 : (0 : Int) ≤ (Rd.dw x : Int) := by omega
  have hkM : (j : Int) ≤ M := by omega
  have HXH : Hid (IxAll T L) := HX
  have HC : Hid (Mv B T (j : Int) l st w w) := m0
  clear HX m0
  generalize hgd1 : (Rd.dw x : Int) = d1 at *
  generalize (x.toNat : Int) = xi1 at hix hdig
  go_wp2_with fail
  go_quiet ((first | (go_at_call 40; exact he _) | (go_at_call 91; exact Calls.quiet_of_same (hdig _))))
  obtain ⟨V1, hV1, m1⟩ : ∃ V, V = w.drewN nq ∧ Mv B T (j : Int) l st w V := ⟨_, rfl, ⟨HC.1.drewN nq, HC.2⟩⟩
  rw [← hV1]
  clear b0 b1 he hV1 HC
  have b0 := m1.2.c0
  have b1 := m1.2.c1
  have HC : Hid (Mv B T (j : Int) l st w V1) := m1
  clear m1
  go_wp2_with fail
  go_quiet ((first | (go_at_call 91; exact Calls.quiet_of_same (hdig _))))
  obtain ⟨U1, hU1, m1⟩ : ∃ V, V = V1.drewN nq ∧ Mv B T (j : Int) l st w V := ⟨_, rfl, ⟨HC.1.drewN nq, HC.2⟩⟩
  rw [← hU1]
  clear b0 b1 hU1 HC hdig hix
  have b1 := m1.2.c1
  have f1 := m1.2.fz 1
  have n1 : Mv B T ((j + 1 : Nat) : Int) l st w (U1.setCell ⟨B, 1, none⟩ (.int .i64 ((j : Int) + 1))) := ⟨m1.1.setCell 1 _, m1.2.set1 _⟩
  have HN1 : Hid (Mv B T ((j + 1 : Nat) : Int) l st w (U1.setCell ⟨B, 1, none⟩ (.int .i64 ((j : Int) + 1)))) := n1
  clear m1 n1
  go_wp2_with fail
  rw [rounds_succ]
  obtain ⟨Z, hZ, mz⟩ : ∃ Z, Z = U1.setCell ⟨B, 1, none⟩ (.int .i64 ((j : Int) + 1)) ∧ Mv B T ((j + 1 : Nat) : Int) l st w Z := ⟨_, rfl, HN1⟩
  rw [← hZ]
  clear HN1 hZ b1 f1
  have HX : IxAll T L := HXH
  clear HXH
  have hj1 := (show j1 = j + 1 from HJ1)
  rw [← hj1] at mz
  have hj1L : j1 ≤ L.length := by omega
  clear hj1 HJ1
  rcases hno with hend | ⟨y, hy, hyd⟩
  · have he := ended_in B T (j1 : Int) l st true (by simp; omega) Z mz.2
    have b0 := mz.2.c0
    have b1 := mz.2.c1
    have HF : Hid (∀ q, Mv B T (j1 : Int) l st w (Z.drewN q)) := (fun q => ⟨mz.1.drewN q, mz.2⟩ : ∀ q, Mv B T (j1 : Int) l st w (Z.drewN q))
    clear HX HID mz
    go_wp2_with fail
    go_quiet ((first | (go_at_call 40; exact he _)))
    go_wp2_with fail
    go_ret2
    exact ⟨rfl, (show ∀ q, _ from HF) nq⟩
  · have hlt : j1 < L.length := (List.getElem?_eq_some_iff.1 hy).1
    have he := ended_in B T (j1 : Int) l st false (by simp; omega) Z mz.2
    have b0 := mz.2.c0
    have b1 := mz.2.c1
    have hix := HX _ _ hy
    have hdig := (show ∀ (c : UInt8) (w : World), _ from HID) y
    have hyI : (16 : Int) ≤ (Rd.dw y : Int) := by omega
    have HF : Hid (∀ q, Mv B T (j1 : Int) l st w (Z.drewN q)) := (fun q => ⟨mz.1.drewN q, mz.2⟩ : ∀ q, Mv B T (j1 : Int) l st w (Z.drewN q))
    clear HX HID mz hy hyd hlt
    generalize (Rd.dw y : Int) = dd at *
    generalize (y.toNat : Int) = yi at *
    go_wp2_with fail
    go_quiet ((first | (go_at_call 40; exact he _) | (go_at_call 91; exact Calls.quiet_of_same (hdig _))))
    go_wp2_with fail
    go_ret2
    exact ⟨rfl, (show ∀ q, _ from HF) nq⟩
set_option maxRecDepth 100000 in
set_option maxHeartbeats 2000000 in
theorem hexbyte_c {B : Nat} {T : ByteArray} (L : List UInt8) (hT : T.data.toList = L) {j : Nat} {l : Int} {st : Bool} (hlen : T.size ≤ 65536) (hj : j ≤ L.length) (x y : UInt8) (hx : L[j]? = some x) (hxd : Rd.dw x < 16) (j1 : Nat) (hj1 : j1 = j + 1) (hy : L[j1]? = some y) (hyd : Rd.dw y < 16) (w : World) (h : Sb B T j l st w) :
    Calls Tryd.prog 93 #[.pointer (some ⟨B, 0, none⟩)] w fun e w' => e = .returned (.tuple #[.int .u8 ((Rd.dw x : Int) * 16 + (Rd.dw y : Int)), .bool true]) ∧ Mv B T ((j1 + 1 : Nat) : Int) l st w w' := by
  have m0 := Mv.refl h
  have HJ1 : Hid (j1 = j + 1) := hj1
  clear h hj1
  have hs : T.size = L.length := by rw [← hT]; simp
  have HX : IxAll T L := fun j c hj => ix T L hT j c hj
  have HID : Hid (∀ (c : UInt8) (w : World), Calls Tryd.prog 91 #[.int .u8 (c.toNat : Int)] w fun e w' => e = .returned (.int .i64 (Rd.dw c : Int)) ∧ w' = w) := Rd.impl_dig
  obtain ⟨M, hM, hLM⟩ : ∃ M : Int, M ≤ 65536 ∧ (L.length : Int) ≤ M := ⟨L.length, by omega, Int.le_refl _⟩
  clear hT hlen
  go_enter Tryd.func93, Tryd.ntmps93
  go_wp2_with fail
  refine wp_loop_rounds 3 ?_
  rw [rounds_succ]
  have hlt1 : j < L.length := (List.getElem?_eq_some_iff.1 hx).1
  have he := ended_in B T (j : Int) l st false (by simp; omega) w m0.2
  have b0 := m0.2.c0
  have b1 := m0.2.c1
  have hix := HX _ _ hx
  have hdig := (show ∀ (c : UInt8) (w : World), _ from HID) x
  have hxI : (Rd.dw x : Int) < 16 := by omega
  have hx0 : (0 : Int) ≤ (Rd.dw x : Int) := by omega
  have hkM : (j : Int) ≤ M := by omega
  have HXH : Hid (IxAll T L) := HX
  have HC : Hid (Mv B T (j : Int) l st w w) := m0
  clear HX m0
  generalize hgd1 : (Rd.dw x : Int) = d1 at *
  generalize (x.toNat : Int) = xi1 at hix hdig
  go_wp2_with fail
  go_quiet ((first | (go_at_call 40; exact he _) | (go_at_call 91; exact Calls.quiet_of_same (hdig _))))
  obtain ⟨V1, hV1, m1⟩ : ∃ V, V = w.drewN nq ∧ Mv B T (j : Int) l st w V := ⟨_, rfl, ⟨HC.1.drewN nq, HC.2⟩⟩
  rw [← hV1]
  clear b0 b1 he hV1 HC
  have b0 := m1.2.c0
  have b1 := m1.2.c1
  have HC : Hid (Mv B T (j : Int) l st w V1) := m1
  clear m1
  go_wp2_with fail
  go_quiet ((first | (go_at_call 91; exact Calls.quiet_of_same (hdig _))))
  obtain ⟨U1, hU1, m1⟩ : ∃ V, V = V1.drewN nq ∧ Mv B T (j : Int) l st w V := ⟨_, rfl, ⟨HC.1.drewN nq, HC.2⟩⟩
  rw [← hU1]
  clear b0 b1 hU1 HC hdig hix
  have b1 := m1.2.c1
  have f1 := m1.2.fz 1
  have n1 : Mv B T ((j + 1 : Nat) : Int) l st w (U1.setCell ⟨B, 1, none⟩ (.int .i64 ((j : Int) + 1))) := ⟨m1.1.setCell 1 _, m1.2.set1 _⟩
  have HN1 : Hid (Mv B T ((j + 1 : Nat) : Int) l st w (U1.setCell ⟨B, 1, none⟩ (.int .i64 ((j : Int) + 1)))) := n1
  clear m1 n1
  go_wp2_with fail
  rw [rounds_succ]
  obtain ⟨Z, hZ, mz⟩ : ∃ Z, Z = U1.setCell ⟨B, 1, none⟩ (.int .i64 ((j : Int) + 1)) ∧ Mv B T ((j + 1 : Nat) : Int) l st w Z := ⟨_, rfl, HN1⟩
  rw [← hZ]
  clear HN1 hZ b1 f1
  have HX : IxAll T L := HXH
  clear HXH hxI hx0 hkM
  have hd1a : d1 < 16 := by omega
  have hd1b : 0 ≤ d1 := by omega
  have hj1 := (show j1 = j + 1 from HJ1)
  rw [← hj1] at mz
  clear hj1 HJ1
  have hlt2 : j1 < L.length := (List.getElem?_eq_some_iff.1 hy).1
  have he := ended_in B T (j1 : Int) l st false (by simp; omega) Z mz.2
  have b0 := mz.2.c0
  have b1 := mz.2.c1
  have hix := HX _ _ hy
  have hdig := (show ∀ (c : UInt8) (w : World), _ from HID) y
  have hxI : (Rd.dw y : Int) < 16 := by omega
  have hx0 : (0 : Int) ≤ (Rd.dw y : Int) := by omega
  have hkM : (j1 : Int) ≤ M := by omega
  have HXH : Hid (IxAll T L) := HX
  have HC : Hid (Mv B T (j1 : Int) l st w Z) := mz
  clear HX mz
  generalize hgd2 : (Rd.dw y : Int) = d2 at *
  generalize (y.toNat : Int) = xi2 at hix hdig
  go_wp2_with fail
  go_quiet ((first | (go_at_call 40; exact he _) | (go_at_call 91; exact Calls.quiet_of_same (hdig _))))
  obtain ⟨V2, hV2, m2⟩ : ∃ V, V = Z.drewN nq ∧ Mv B T (j1 : Int) l st w V := ⟨_, rfl, ⟨HC.1.drewN nq, HC.2⟩⟩
  rw [← hV2]
  clear b0 b1 he hV2 HC
  have b0 := m2.2.c0
  have b1 := m2.2.c1
  have HC : Hid (Mv B T (j1 : Int) l st w V2) := m2
  clear m2
  go_wp2_with fail
  go_quiet ((first | (go_at_call 91; exact Calls.quiet_of_same (hdig _))))
  obtain ⟨U2, hU2, m2⟩ : ∃ V, V = V2.drewN nq ∧ Mv B T (j1 : Int) l st w V := ⟨_, rfl, ⟨HC.1.drewN nq, HC.2⟩⟩
  rw [← hU2]
  clear b0 b1 hU2 HC hdig hix
  have b1 := m2.2.c1
  have f1 := m2.2.fz 1
  have n2 : Mv B T ((j1 + 1 : Nat) : Int) l st w (U2.setCell ⟨B, 1, none⟩ (.int .i64 ((j1 : Int) + 1))) := ⟨m2.1.setCell 1 _, m2.2.set1 _⟩
  have HN2 : Hid (Mv B T ((j1 + 1 : Nat) : Int) l st w (U2.setCell ⟨B, 1, none⟩ (.int .i64 ((j1 : Int) + 1)))) := n2
  clear m2 n2
  go_wp2_with fail
  rw [rounds_succ]
  go_wp2_with fail
  go_ret2
  exact ⟨by rw [hgd1, hgd2]; rfl, HN2⟩
end Go.Proofs.YtogenhnonjkanaaDoor
namespace Go.Proofs.YtogenhnonjkanaaDoor
open Go.ChangeShapes Go.WideShapes Go.ChangeAt Go.RowKit
set_option linter.unusedVariables false
/-- an element of a string: whether it is one, its byte, where it ends or cannot go on -/
inductive Elt (L : List UInt8) (j : Nat) : Bool → Int → Nat → Prop
  | plain (x : UInt8) (h : L[j]? = some x) (hx : x ≠ 92) : Elt L j true (x.toNat : Int) (j + 1)
  | simple (c : UInt8) (v : Int) (h : L[j]? = some 92) (hc : L[j + 1]? = some c) (hv : (c = 110 ∧ v = 10) ∨ (c = 116 ∧ v = 9) ∨ (c = 34 ∧ v = 34) ∨ (c = 92 ∧ v = 92)) : Elt L j true v (j + 2)
  | hex (x y : UInt8) (h : L[j]? = some 92) (hc : L[j + 1]? = some 120) (hx : L[j + 2]? = some x) (hxd : Rd.dw x < 16) (hy : L[j + 3]? = some y) (hyd : Rd.dw y < 16) : Elt L j true ((Rd.dw x : Int) * 16 + (Rd.dw y : Int)) (j + 4)
  | hexA (h : L[j]? = some 92) (hc : L[j + 1]? = some 120) (hno : NoHex L (j + 2)) : Elt L j false 0 (j + 2)
  | hexB (x : UInt8) (h : L[j]? = some 92) (hc : L[j + 1]? = some 120) (hx : L[j + 2]? = some x) (hxd : Rd.dw x < 16) (hno : NoHex L (j + 3)) : Elt L j false 0 (j + 3)
  | none (h : L[j]? = some 92) (hc : L[j + 1]? ≠ some 110 ∧ L[j + 1]? ≠ some 116 ∧ L[j + 1]? ≠ some 34 ∧ L[j + 1]? ≠ some 92 ∧ L[j + 1]? ≠ some 120) : Elt L j false 0 (j + 1)
theorem elt_any (L : List UInt8) (j : Nat) (hj : j < L.length) : ∃ ok v e, Elt L j ok v e := by
  have hx := List.getElem?_eq_getElem hj
  by_cases h92 : L[j] = 92
  · rw [h92] at hx
    by_cases h1 : L[j + 1]? = some 110
    · exact ⟨_, _, _, .simple 110 10 hx h1 (.inl ⟨rfl, rfl⟩)⟩
    · by_cases h2 : L[j + 1]? = some 116
      · exact ⟨_, _, _, .simple 116 9 hx h2 (.inr (.inl ⟨rfl, rfl⟩))⟩
      · by_cases h3 : L[j + 1]? = some 34
        · exact ⟨_, _, _, .simple 34 34 hx h3 (.inr (.inr (.inl ⟨rfl, rfl⟩)))⟩
        · by_cases h4 : L[j + 1]? = some 92
          · exact ⟨_, _, _, .simple 92 92 hx h4 (.inr (.inr (.inr ⟨rfl, rfl⟩)))⟩
          · by_cases h5 : L[j + 1]? = some 120
            · rcases nohex_or L (j + 2) with hn | ⟨x, hx1, hx2⟩
              · exact ⟨_, _, _, .hexA hx h5 hn⟩
              · rcases nohex_or L (j + 3) with hn | ⟨y, hy1, hy2⟩
                · exact ⟨_, _, _, .hexB x hx h5 hx1 hx2 hn⟩
                · exact ⟨_, _, _, .hex x y hx h5 hx1 hx2 hy1 hy2⟩
            · exact ⟨_, _, _, .none hx ⟨h1, h2, h3, h4, h5⟩⟩
  · exact ⟨_, _, _, .plain _ hx h92⟩
theorem Elt.gt {L : List UInt8} {j : Nat} {ok : Bool} {v : Int} {e : Nat} (h : Elt L j ok v e) : j < e := by cases h <;> omega
theorem Elt.le {L : List UInt8} {j : Nat} {ok : Bool} {v : Int} {e : Nat} (h : Elt L j ok v e) : e ≤ L.length := by
  have lt : ∀ {i : Nat} {x : UInt8}, L[i]? = some x → i < L.length := fun hx => (List.getElem?_eq_some_iff.1 hx).1
  cases h with
  | plain x h hx => have := lt h; omega
  | simple c v h hc hv => have := lt hc; omega
  | hex x y h hc hx hxd hy hyd => have := lt hy; omega
  | hexA h hc hno => have := lt hc; omega
  | hexB x h hc hx hxd hno => have := lt hx; omega
  | none h hc => have := lt h; omega
end Go.Proofs.YtogenhnonjkanaaDoor
namespace Go.Proofs.YtogenhnonjkanaaDoor
open Go.ChangeShapes Go.WideShapes Go.ChangeAt Go.RowKit
set_option linter.unusedVariables false
set_option maxRecDepth 100000 in
set_option maxHeartbeats 2000000 in
theorem el_plain {B : Nat} {T : ByteArray} (L : List UInt8) (hT : T.data.toList = L) {j : Nat} {l : Int} {st : Bool} (hlen : T.size ≤ 65536) (x : UInt8) (hx : L[j]? = some x) (h92 : x ≠ 92) (w : World) (h : Sb B T j l st w) :
    Calls Tryd.prog 81 #[.pointer (some ⟨B, 0, none⟩)] w fun e w' => e = .returned (.tuple #[.int .u8 (x.toNat : Int), .bool true]) ∧ Mv B T ((j + 1 : Nat) : Int) l st w w' := by
  have hs : T.size = L.length := by rw [← hT]; simp
  have hj : j < L.length := (List.getElem?_eq_some_iff.1 hx).1
  have t0 : ∀ w1, Sb B T (j : Nat) l st w1 → Calls Tryd.prog 56 #[.pointer (some ⟨B, 0, none⟩), .int .u8 92] w1 fun e w' => e = .returned (.bool false) ∧ Mv B T (j : Nat) l st w1 w' := fun w1 h1 => take_mv (k := j) 92 92 rfl false j hlen (by omega) (by rw [hT]; exact .inr ⟨by rw [hx]; intro g; exact h92 (Option.some.inj g), rfl, rfl⟩) w1 h1
  have hix := ix T L hT j x hx
  obtain ⟨M, hM, hLM⟩ : ∃ M : Int, M ≤ 65536 ∧ (j : Int) < M := ⟨T.size, by omega, by omega⟩
  clear hT hlen hx h92 hs hj
  generalize (x.toNat : Int) = xi at *
  go_enter Tryd.func81, Tryd.ntmps81
  go_wp2_with fail
  refine (t0 _ h).mono ?_
  rintro en w1 ⟨rfl, m1⟩
  have n1 := m1
  clear m1 t0
  have b1 := n1.2.c1
  have f1 := n1.2.fz 1
  have mz : Mv B T ((j + 1 : Nat) : Int) l st w (w1.setCell ⟨B, 1, none⟩ (.int .i64 ((j : Int) + 1))) := ⟨n1.1.setCell 1 _, n1.2.set1 _⟩
  obtain ⟨Z, hZ, HZ⟩ : ∃ Z, Z = w1.setCell ⟨B, 1, none⟩ (.int .i64 ((j : Int) + 1)) ∧ Hid (Mv B T ((j + 1 : Nat) : Int) l st w Z) := ⟨_, rfl, mz⟩
  have b0 : Z.cell? ⟨B, 0, none⟩ = some (.string T) := HZ.2.c0
  have d1 : Z.cell? ⟨B, 1, none⟩ = some (.int .i64 ((j : Int) + 1)) := by have := HZ.2.c1; simpa using this
  clear n1 mz h
  go_wp2_with fail
  rw [← hZ]
  clear hZ b1 f1
  go_quiet (fail)
  go_wp2_with fail
  go_ret2
  exact ⟨rfl, HZ.1.drewN nq, HZ.2⟩
set_option maxRecDepth 100000 in
set_option maxHeartbeats 2000000 in
theorem el_n {B : Nat} {T : ByteArray} (L : List UInt8) (hT : T.data.toList = L) {j : Nat} {l : Int} {st : Bool} (hlen : T.size ≤ 65536) (j1 : Nat) (hj1 : j1 = j + 1) (hx : L[j]? = some 92) (hc : L[j1]? = some 110) (w : World) (h : Sb B T j l st w) :
    Calls Tryd.prog 81 #[.pointer (some ⟨B, 0, none⟩)] w fun e w' => e = .returned (.tuple #[.int .u8 10, .bool true]) ∧ Mv B T ((j1 + 1 : Nat) : Int) l st w w' := by
  have hs : T.size = L.length := by rw [← hT]; simp
  have hj : j1 < L.length := (List.getElem?_eq_some_iff.1 hc).1
  have t0 : ∀ w1, Sb B T (j : Nat) l st w1 → Calls Tryd.prog 56 #[.pointer (some ⟨B, 0, none⟩), .int .u8 92] w1 fun e w' => e = .returned (.bool true) ∧ Mv B T (j1 : Nat) l st w1 w' := fun w1 h1 => take_mv (k := j) 92 92 rfl true j1 hlen (by omega) (by rw [hT]; exact .inl ⟨hx, rfl, hj1⟩) w1 h1
  have t1 : ∀ w1, Sb B T (j1 : Nat) l st w1 → Calls Tryd.prog 56 #[.pointer (some ⟨B, 0, none⟩), .int .u8 110] w1 fun e w' => e = .returned (.bool true) ∧ Mv B T ((j1 + 1) : Nat) l st w1 w' := fun w1 h1 => take_mv (k := j1) 110 110 rfl true (j1 + 1) hlen (by omega) (by rw [hT]; exact .inl ⟨hc, rfl, rfl⟩) w1 h1
  clear hT hlen hx hc hs hj hj1
  go_enter Tryd.func81, Tryd.ntmps81
  go_wp2_with fail
  refine (t0 _ h).mono ?_
  rintro en w1 ⟨rfl, m1⟩
  have n1 := m1
  clear m1 t0
  go_wp2_with fail
  refine (t1 _ n1.2).mono ?_
  rintro en w2 ⟨rfl, m2⟩
  have n2 := n1.trans m2
  clear n1
  clear m2 t1
  have HZ : Hid (Mv B T ((j1 + 1 : Nat) : Int) l st w w2) := n2
  clear n2 h
  go_wp2_with fail
  go_ret2
  exact ⟨rfl, HZ⟩
set_option maxRecDepth 100000 in
set_option maxHeartbeats 2000000 in
theorem el_t {B : Nat} {T : ByteArray} (L : List UInt8) (hT : T.data.toList = L) {j : Nat} {l : Int} {st : Bool} (hlen : T.size ≤ 65536) (j1 : Nat) (hj1 : j1 = j + 1) (hx : L[j]? = some 92) (hc : L[j1]? = some 116) (w : World) (h : Sb B T j l st w) :
    Calls Tryd.prog 81 #[.pointer (some ⟨B, 0, none⟩)] w fun e w' => e = .returned (.tuple #[.int .u8 9, .bool true]) ∧ Mv B T ((j1 + 1 : Nat) : Int) l st w w' := by
  have hs : T.size = L.length := by rw [← hT]; simp
  have hj : j1 < L.length := (List.getElem?_eq_some_iff.1 hc).1
  have t0 : ∀ w1, Sb B T (j : Nat) l st w1 → Calls Tryd.prog 56 #[.pointer (some ⟨B, 0, none⟩), .int .u8 92] w1 fun e w' => e = .returned (.bool true) ∧ Mv B T (j1 : Nat) l st w1 w' := fun w1 h1 => take_mv (k := j) 92 92 rfl true j1 hlen (by omega) (by rw [hT]; exact .inl ⟨hx, rfl, hj1⟩) w1 h1
  have t1 : ∀ w1, Sb B T (j1 : Nat) l st w1 → Calls Tryd.prog 56 #[.pointer (some ⟨B, 0, none⟩), .int .u8 110] w1 fun e w' => e = .returned (.bool false) ∧ Mv B T (j1 : Nat) l st w1 w' := fun w1 h1 => take_mv (k := j1) 110 110 rfl false j1 hlen (by omega) (by rw [hT]; exact .inr ⟨by rw [hc]; decide, rfl, rfl⟩) w1 h1
  have t2 : ∀ w1, Sb B T (j1 : Nat) l st w1 → Calls Tryd.prog 56 #[.pointer (some ⟨B, 0, none⟩), .int .u8 116] w1 fun e w' => e = .returned (.bool true) ∧ Mv B T ((j1 + 1) : Nat) l st w1 w' := fun w1 h1 => take_mv (k := j1) 116 116 rfl true (j1 + 1) hlen (by omega) (by rw [hT]; exact .inl ⟨hc, rfl, rfl⟩) w1 h1
  clear hT hlen hx hc hs hj hj1
  go_enter Tryd.func81, Tryd.ntmps81
  go_wp2_with fail
  refine (t0 _ h).mono ?_
  rintro en w1 ⟨rfl, m1⟩
  have n1 := m1
  clear m1 t0
  go_wp2_with fail
  refine (t1 _ n1.2).mono ?_
  rintro en w2 ⟨rfl, m2⟩
  have n2 := n1.trans m2
  clear n1
  clear m2 t1
  go_wp2_with fail
  refine (t2 _ n2.2).mono ?_
  rintro en w3 ⟨rfl, m3⟩
  have n3 := n2.trans m3
  clear n2
  clear m3 t2
  have HZ : Hid (Mv B T ((j1 + 1 : Nat) : Int) l st w w3) := n3
  clear n3 h
  go_wp2_with fail
  go_ret2
  exact ⟨rfl, HZ⟩
set_option maxRecDepth 100000 in
set_option maxHeartbeats 2000000 in
theorem el_q {B : Nat} {T : ByteArray} (L : List UInt8) (hT : T.data.toList = L) {j : Nat} {l : Int} {st : Bool} (hlen : T.size ≤ 65536) (j1 : Nat) (hj1 : j1 = j + 1) (hx : L[j]? = some 92) (hc : L[j1]? = some 34) (w : World) (h : Sb B T j l st w) :
    Calls Tryd.prog 81 #[.pointer (some ⟨B, 0, none⟩)] w fun e w' => e = .returned (.tuple #[.int .u8 34, .bool true]) ∧ Mv B T ((j1 + 1 : Nat) : Int) l st w w' := by
  have hs : T.size = L.length := by rw [← hT]; simp
  have hj : j1 < L.length := (List.getElem?_eq_some_iff.1 hc).1
  have t0 : ∀ w1, Sb B T (j : Nat) l st w1 → Calls Tryd.prog 56 #[.pointer (some ⟨B, 0, none⟩), .int .u8 92] w1 fun e w' => e = .returned (.bool true) ∧ Mv B T (j1 : Nat) l st w1 w' := fun w1 h1 => take_mv (k := j) 92 92 rfl true j1 hlen (by omega) (by rw [hT]; exact .inl ⟨hx, rfl, hj1⟩) w1 h1
  have t1 : ∀ w1, Sb B T (j1 : Nat) l st w1 → Calls Tryd.prog 56 #[.pointer (some ⟨B, 0, none⟩), .int .u8 110] w1 fun e w' => e = .returned (.bool false) ∧ Mv B T (j1 : Nat) l st w1 w' := fun w1 h1 => take_mv (k := j1) 110 110 rfl false j1 hlen (by omega) (by rw [hT]; exact .inr ⟨by rw [hc]; decide, rfl, rfl⟩) w1 h1
  have t2 : ∀ w1, Sb B T (j1 : Nat) l st w1 → Calls Tryd.prog 56 #[.pointer (some ⟨B, 0, none⟩), .int .u8 116] w1 fun e w' => e = .returned (.bool false) ∧ Mv B T (j1 : Nat) l st w1 w' := fun w1 h1 => take_mv (k := j1) 116 116 rfl false j1 hlen (by omega) (by rw [hT]; exact .inr ⟨by rw [hc]; decide, rfl, rfl⟩) w1 h1
  have t3 : ∀ w1, Sb B T (j1 : Nat) l st w1 → Calls Tryd.prog 56 #[.pointer (some ⟨B, 0, none⟩), .int .u8 34] w1 fun e w' => e = .returned (.bool true) ∧ Mv B T ((j1 + 1) : Nat) l st w1 w' := fun w1 h1 => take_mv (k := j1) 34 34 rfl true (j1 + 1) hlen (by omega) (by rw [hT]; exact .inl ⟨hc, rfl, rfl⟩) w1 h1
  clear hT hlen hx hc hs hj hj1
  go_enter Tryd.func81, Tryd.ntmps81
  go_wp2_with fail
  refine (t0 _ h).mono ?_
  rintro en w1 ⟨rfl, m1⟩
  have n1 := m1
  clear m1 t0
  go_wp2_with fail
  refine (t1 _ n1.2).mono ?_
  rintro en w2 ⟨rfl, m2⟩
  have n2 := n1.trans m2
  clear n1
  clear m2 t1
  go_wp2_with fail
  refine (t2 _ n2.2).mono ?_
  rintro en w3 ⟨rfl, m3⟩
  have n3 := n2.trans m3
  clear n2
  clear m3 t2
  go_wp2_with fail
  refine (t3 _ n3.2).mono ?_
  rintro en w4 ⟨rfl, m4⟩
  have n4 := n3.trans m4
  clear n3
  clear m4 t3
  have HZ : Hid (Mv B T ((j1 + 1 : Nat) : Int) l st w w4) := n4
  clear n4 h
  go_wp2_with fail
  go_ret2
  exact ⟨rfl, HZ⟩
set_option maxRecDepth 100000 in
set_option maxHeartbeats 2000000 in
theorem el_b {B : Nat} {T : ByteArray} (L : List UInt8) (hT : T.data.toList = L) {j : Nat} {l : Int} {st : Bool} (hlen : T.size ≤ 65536) (j1 : Nat) (hj1 : j1 = j + 1) (hx : L[j]? = some 92) (hc : L[j1]? = some 92) (w : World) (h : Sb B T j l st w) :
    Calls Tryd.prog 81 #[.pointer (some ⟨B, 0, none⟩)] w fun e w' => e = .returned (.tuple #[.int .u8 92, .bool true]) ∧ Mv B T ((j1 + 1 : Nat) : Int) l st w w' := by
  have hs : T.size = L.length := by rw [← hT]; simp
  have hj : j1 < L.length := (List.getElem?_eq_some_iff.1 hc).1
  have t0 : ∀ w1, Sb B T (j : Nat) l st w1 → Calls Tryd.prog 56 #[.pointer (some ⟨B, 0, none⟩), .int .u8 92] w1 fun e w' => e = .returned (.bool true) ∧ Mv B T (j1 : Nat) l st w1 w' := fun w1 h1 => take_mv (k := j) 92 92 rfl true j1 hlen (by omega) (by rw [hT]; exact .inl ⟨hx, rfl, hj1⟩) w1 h1
  have t1 : ∀ w1, Sb B T (j1 : Nat) l st w1 → Calls Tryd.prog 56 #[.pointer (some ⟨B, 0, none⟩), .int .u8 110] w1 fun e w' => e = .returned (.bool false) ∧ Mv B T (j1 : Nat) l st w1 w' := fun w1 h1 => take_mv (k := j1) 110 110 rfl false j1 hlen (by omega) (by rw [hT]; exact .inr ⟨by rw [hc]; decide, rfl, rfl⟩) w1 h1
  have t2 : ∀ w1, Sb B T (j1 : Nat) l st w1 → Calls Tryd.prog 56 #[.pointer (some ⟨B, 0, none⟩), .int .u8 116] w1 fun e w' => e = .returned (.bool false) ∧ Mv B T (j1 : Nat) l st w1 w' := fun w1 h1 => take_mv (k := j1) 116 116 rfl false j1 hlen (by omega) (by rw [hT]; exact .inr ⟨by rw [hc]; decide, rfl, rfl⟩) w1 h1
  have t3 : ∀ w1, Sb B T (j1 : Nat) l st w1 → Calls Tryd.prog 56 #[.pointer (some ⟨B, 0, none⟩), .int .u8 34] w1 fun e w' => e = .returned (.bool false) ∧ Mv B T (j1 : Nat) l st w1 w' := fun w1 h1 => take_mv (k := j1) 34 34 rfl false j1 hlen (by omega) (by rw [hT]; exact .inr ⟨by rw [hc]; decide, rfl, rfl⟩) w1 h1
  have t4 : ∀ w1, Sb B T (j1 : Nat) l st w1 → Calls Tryd.prog 56 #[.pointer (some ⟨B, 0, none⟩), .int .u8 92] w1 fun e w' => e = .returned (.bool true) ∧ Mv B T ((j1 + 1) : Nat) l st w1 w' := fun w1 h1 => take_mv (k := j1) 92 92 rfl true (j1 + 1) hlen (by omega) (by rw [hT]; exact .inl ⟨hc, rfl, rfl⟩) w1 h1
  clear hT hlen hx hc hs hj hj1
  go_enter Tryd.func81, Tryd.ntmps81
  go_wp2_with fail
  refine (t0 _ h).mono ?_
  rintro en w1 ⟨rfl, m1⟩
  have n1 := m1
  clear m1 t0
  go_wp2_with fail
  refine (t1 _ n1.2).mono ?_
  rintro en w2 ⟨rfl, m2⟩
  have n2 := n1.trans m2
  clear n1
  clear m2 t1
  go_wp2_with fail
  refine (t2 _ n2.2).mono ?_
  rintro en w3 ⟨rfl, m3⟩
  have n3 := n2.trans m3
  clear n2
  clear m3 t2
  go_wp2_with fail
  refine (t3 _ n3.2).mono ?_
  rintro en w4 ⟨rfl, m4⟩
  have n4 := n3.trans m4
  clear n3
  clear m4 t3
  go_wp2_with fail
  refine (t4 _ n4.2).mono ?_
  rintro en w5 ⟨rfl, m5⟩
  have n5 := n4.trans m5
  clear n4
  clear m5 t4
  have HZ : Hid (Mv B T ((j1 + 1 : Nat) : Int) l st w w5) := n5
  clear n5 h
  go_wp2_with fail
  go_ret2
  exact ⟨rfl, HZ⟩
set_option maxRecDepth 100000 in
set_option maxHeartbeats 2000000 in
theorem el_xa {B : Nat} {T : ByteArray} (L : List UInt8) (hT : T.data.toList = L) {j : Nat} {l : Int} {st : Bool} (hlen : T.size ≤ 65536) (j1 j2 : Nat) (hj1 : j1 = j + 1) (hj2 : j2 = j1 + 1) (hx : L[j]? = some 92) (hc : L[j1]? = some 120) (hno : NoHex L j2) (w : World) (h : Sb B T j l st w) :
    Calls Tryd.prog 81 #[.pointer (some ⟨B, 0, none⟩)] w fun e w' => e = .returned (.tuple #[.int .u8 0, .bool false]) ∧ Mv B T ((j2 : Nat) : Int) l st w w' := by
  have hs : T.size = L.length := by rw [← hT]; simp
  have hj : j1 < L.length := (List.getElem?_eq_some_iff.1 hc).1
  have t0 : ∀ w1, Sb B T (j : Nat) l st w1 → Calls Tryd.prog 56 #[.pointer (some ⟨B, 0, none⟩), .int .u8 92] w1 fun e w' => e = .returned (.bool true) ∧ Mv B T (j1 : Nat) l st w1 w' := fun w1 h1 => take_mv (k := j) 92 92 rfl true j1 hlen (by omega) (by rw [hT]; exact .inl ⟨hx, rfl, hj1⟩) w1 h1
  have t1 : ∀ w1, Sb B T (j1 : Nat) l st w1 → Calls Tryd.prog 56 #[.pointer (some ⟨B, 0, none⟩), .int .u8 110] w1 fun e w' => e = .returned (.bool false) ∧ Mv B T (j1 : Nat) l st w1 w' := fun w1 h1 => take_mv (k := j1) 110 110 rfl false j1 hlen (by omega) (by rw [hT]; exact .inr ⟨by rw [hc]; decide, rfl, rfl⟩) w1 h1
  have t2 : ∀ w1, Sb B T (j1 : Nat) l st w1 → Calls Tryd.prog 56 #[.pointer (some ⟨B, 0, none⟩), .int .u8 116] w1 fun e w' => e = .returned (.bool false) ∧ Mv B T (j1 : Nat) l st w1 w' := fun w1 h1 => take_mv (k := j1) 116 116 rfl false j1 hlen (by omega) (by rw [hT]; exact .inr ⟨by rw [hc]; decide, rfl, rfl⟩) w1 h1
  have t3 : ∀ w1, Sb B T (j1 : Nat) l st w1 → Calls Tryd.prog 56 #[.pointer (some ⟨B, 0, none⟩), .int .u8 34] w1 fun e w' => e = .returned (.bool false) ∧ Mv B T (j1 : Nat) l st w1 w' := fun w1 h1 => take_mv (k := j1) 34 34 rfl false j1 hlen (by omega) (by rw [hT]; exact .inr ⟨by rw [hc]; decide, rfl, rfl⟩) w1 h1
  have t4 : ∀ w1, Sb B T (j1 : Nat) l st w1 → Calls Tryd.prog 56 #[.pointer (some ⟨B, 0, none⟩), .int .u8 92] w1 fun e w' => e = .returned (.bool false) ∧ Mv B T (j1 : Nat) l st w1 w' := fun w1 h1 => take_mv (k := j1) 92 92 rfl false j1 hlen (by omega) (by rw [hT]; exact .inr ⟨by rw [hc]; decide, rfl, rfl⟩) w1 h1
  have t5 : ∀ w1, Sb B T (j1 : Nat) l st w1 → Calls Tryd.prog 56 #[.pointer (some ⟨B, 0, none⟩), .int .u8 120] w1 fun e w' => e = .returned (.bool true) ∧ Mv B T (j2 : Nat) l st w1 w' := fun w1 h1 => take_mv (k := j1) 120 120 rfl true j2 hlen (by omega) (by rw [hT]; exact .inl ⟨hc, rfl, hj2⟩) w1 h1
  have hb := fun w1 (h1 : Sb B T (j2 : Nat) l st w1) => hexbyte_a L hT hlen (by omega) hno w1 h1
  clear hT hlen hx hc hs hj hj1 hj2 hno
  go_enter Tryd.func81, Tryd.ntmps81
  go_wp2_with fail
  refine (t0 _ h).mono ?_
  rintro en w1 ⟨rfl, m1⟩
  have n1 := m1
  clear m1 t0
  go_wp2_with fail
  refine (t1 _ n1.2).mono ?_
  rintro en w2 ⟨rfl, m2⟩
  have n2 := n1.trans m2
  clear n1
  clear m2 t1
  go_wp2_with fail
  refine (t2 _ n2.2).mono ?_
  rintro en w3 ⟨rfl, m3⟩
  have n3 := n2.trans m3
  clear n2
  clear m3 t2
  go_wp2_with fail
  refine (t3 _ n3.2).mono ?_
  rintro en w4 ⟨rfl, m4⟩
  have n4 := n3.trans m4
  clear n3
  clear m4 t3
  go_wp2_with fail
  refine (t4 _ n4.2).mono ?_
  rintro en w5 ⟨rfl, m5⟩
  have n5 := n4.trans m5
  clear n4
  clear m5 t4
  go_wp2_with fail
  refine (t5 _ n5.2).mono ?_
  rintro en w6 ⟨rfl, m6⟩
  have n6 := n5.trans m6
  clear n5
  clear m6 t5
  have hb1 := hb _ n6.2
  have HZ : Hid (Mv B T (j2 : Nat) l st w w6) := n6
  clear n6 h hb
  go_wp2_with fail
  refine hb1.mono ?_
  rintro en w9 ⟨rfl, m9⟩
  have HY : Hid (Mv B T ((j2 : Nat) : Int) l st w w9) := (show Mv B T (j2 : Nat) l st w w6 from HZ).trans m9
  clear hb1 m9 HZ
  go_wp2_with fail
  go_ret2
  exact ⟨rfl, HY⟩
set_option maxRecDepth 100000 in
set_option maxHeartbeats 2000000 in
theorem el_xb {B : Nat} {T : ByteArray} (L : List UInt8) (hT : T.data.toList = L) {j : Nat} {l : Int} {st : Bool} (hlen : T.size ≤ 65536) (j1 j2 : Nat) (hj1 : j1 = j + 1) (hj2 : j2 = j1 + 1) (hx : L[j]? = some 92) (hc : L[j1]? = some 120) (x : UInt8) (hx2 : L[j2]? = some x) (hxd : Rd.dw x < 16) (j3 : Nat) (hj3 : j3 = j2 + 1) (hno : NoHex L j3) (w : World) (h : Sb B T j l st w) :
    Calls Tryd.prog 81 #[.pointer (some ⟨B, 0, none⟩)] w fun e w' => e = .returned (.tuple #[.int .u8 0, .bool false]) ∧ Mv B T ((j3 : Nat) : Int) l st w w' := by
  have hs : T.size = L.length := by rw [← hT]; simp
  have hj : j1 < L.length := (List.getElem?_eq_some_iff.1 hc).1
  have t0 : ∀ w1, Sb B T (j : Nat) l st w1 → Calls Tryd.prog 56 #[.pointer (some ⟨B, 0, none⟩), .int .u8 92] w1 fun e w' => e = .returned (.bool true) ∧ Mv B T (j1 : Nat) l st w1 w' := fun w1 h1 => take_mv (k := j) 92 92 rfl true j1 hlen (by omega) (by rw [hT]; exact .inl ⟨hx, rfl, hj1⟩) w1 h1
  have t1 : ∀ w1, Sb B T (j1 : Nat) l st w1 → Calls Tryd.prog 56 #[.pointer (some ⟨B, 0, none⟩), .int .u8 110] w1 fun e w' => e = .returned (.bool false) ∧ Mv B T (j1 : Nat) l st w1 w' := fun w1 h1 => take_mv (k := j1) 110 110 rfl false j1 hlen (by omega) (by rw [hT]; exact .inr ⟨by rw [hc]; decide, rfl, rfl⟩) w1 h1
  have t2 : ∀ w1, Sb B T (j1 : Nat) l st w1 → Calls Tryd.prog 56 #[.pointer (some ⟨B, 0, none⟩), .int .u8 116] w1 fun e w' => e = .returned (.bool false) ∧ Mv B T (j1 : Nat) l st w1 w' := fun w1 h1 => take_mv (k := j1) 116 116 rfl false j1 hlen (by omega) (by rw [hT]; exact .inr ⟨by rw [hc]; decide, rfl, rfl⟩) w1 h1
  have t3 : ∀ w1, Sb B T (j1 : Nat) l st w1 → Calls Tryd.prog 56 #[.pointer (some ⟨B, 0, none⟩), .int .u8 34] w1 fun e w' => e = .returned (.bool false) ∧ Mv B T (j1 : Nat) l st w1 w' := fun w1 h1 => take_mv (k := j1) 34 34 rfl false j1 hlen (by omega) (by rw [hT]; exact .inr ⟨by rw [hc]; decide, rfl, rfl⟩) w1 h1
  have t4 : ∀ w1, Sb B T (j1 : Nat) l st w1 → Calls Tryd.prog 56 #[.pointer (some ⟨B, 0, none⟩), .int .u8 92] w1 fun e w' => e = .returned (.bool false) ∧ Mv B T (j1 : Nat) l st w1 w' := fun w1 h1 => take_mv (k := j1) 92 92 rfl false j1 hlen (by omega) (by rw [hT]; exact .inr ⟨by rw [hc]; decide, rfl, rfl⟩) w1 h1
  have t5 : ∀ w1, Sb B T (j1 : Nat) l st w1 → Calls Tryd.prog 56 #[.pointer (some ⟨B, 0, none⟩), .int .u8 120] w1 fun e w' => e = .returned (.bool true) ∧ Mv B T (j2 : Nat) l st w1 w' := fun w1 h1 => take_mv (k := j1) 120 120 rfl true j2 hlen (by omega) (by rw [hT]; exact .inl ⟨hc, rfl, hj2⟩) w1 h1
  have hb := fun w1 (h1 : Sb B T (j2 : Nat) l st w1) => hexbyte_b L hT hlen (by omega) x hx2 hxd j3 hj3 hno w1 h1
  clear hT hlen hx hc hs hj hj1 hj2 hx2 hxd hno hj3
  go_enter Tryd.func81, Tryd.ntmps81
  go_wp2_with fail
  refine (t0 _ h).mono ?_
  rintro en w1 ⟨rfl, m1⟩
  have n1 := m1
  clear m1 t0
  go_wp2_with fail
  refine (t1 _ n1.2).mono ?_
  rintro en w2 ⟨rfl, m2⟩
  have n2 := n1.trans m2
  clear n1
  clear m2 t1
  go_wp2_with fail
  refine (t2 _ n2.2).mono ?_
  rintro en w3 ⟨rfl, m3⟩
  have n3 := n2.trans m3
  clear n2
  clear m3 t2
  go_wp2_with fail
  refine (t3 _ n3.2).mono ?_
  rintro en w4 ⟨rfl, m4⟩
  have n4 := n3.trans m4
  clear n3
  clear m4 t3
  go_wp2_with fail
  refine (t4 _ n4.2).mono ?_
  rintro en w5 ⟨rfl, m5⟩
  have n5 := n4.trans m5
  clear n4
  clear m5 t4
  go_wp2_with fail
  refine (t5 _ n5.2).mono ?_
  rintro en w6 ⟨rfl, m6⟩
  have n6 := n5.trans m6
  clear n5
  clear m6 t5
  have hb1 := hb _ n6.2
  have HZ : Hid (Mv B T (j2 : Nat) l st w w6) := n6
  clear n6 h hb
  go_wp2_with fail
  refine hb1.mono ?_
  rintro en w9 ⟨rfl, m9⟩
  have HY : Hid (Mv B T ((j3 : Nat) : Int) l st w w9) := (show Mv B T (j2 : Nat) l st w w6 from HZ).trans m9
  clear hb1 m9 HZ
  go_wp2_with fail
  go_ret2
  exact ⟨rfl, HY⟩
set_option maxRecDepth 100000 in
set_option maxHeartbeats 2000000 in
theorem el_xc {B : Nat} {T : ByteArray} (L : List UInt8) (hT : T.data.toList = L) {j : Nat} {l : Int} {st : Bool} (hlen : T.size ≤ 65536) (j1 j2 : Nat) (hj1 : j1 = j + 1) (hj2 : j2 = j1 + 1) (hx : L[j]? = some 92) (hc : L[j1]? = some 120) (x y : UInt8) (hx2 : L[j2]? = some x) (hxd : Rd.dw x < 16) (j3 : Nat) (hj3 : j3 = j2 + 1) (hy : L[j3]? = some y) (hyd : Rd.dw y < 16) (w : World) (h : Sb B T j l st w) :
    Calls Tryd.prog 81 #[.pointer (some ⟨B, 0, none⟩)] w fun e w' => e = .returned (.tuple #[.int .u8 ((Rd.dw x : Int) * 16 + (Rd.dw y : Int)), .bool true]) ∧ Mv B T (((j3 + 1) : Nat) : Int) l st w w' := by
  have hs : T.size = L.length := by rw [← hT]; simp
  have hj : j1 < L.length := (List.getElem?_eq_some_iff.1 hc).1
  have t0 : ∀ w1, Sb B T (j : Nat) l st w1 → Calls Tryd.prog 56 #[.pointer (some ⟨B, 0, none⟩), .int .u8 92] w1 fun e w' => e = .returned (.bool true) ∧ Mv B T (j1 : Nat) l st w1 w' := fun w1 h1 => take_mv (k := j) 92 92 rfl true j1 hlen (by omega) (by rw [hT]; exact .inl ⟨hx, rfl, hj1⟩) w1 h1
  have t1 : ∀ w1, Sb B T (j1 : Nat) l st w1 → Calls Tryd.prog 56 #[.pointer (some ⟨B, 0, none⟩), .int .u8 110] w1 fun e w' => e = .returned (.bool false) ∧ Mv B T (j1 : Nat) l st w1 w' := fun w1 h1 => take_mv (k := j1) 110 110 rfl false j1 hlen (by omega) (by rw [hT]; exact .inr ⟨by rw [hc]; decide, rfl, rfl⟩) w1 h1
  have t2 : ∀ w1, Sb B T (j1 : Nat) l st w1 → Calls Tryd.prog 56 #[.pointer (some ⟨B, 0, none⟩), .int .u8 116] w1 fun e w' => e = .returned (.bool false) ∧ Mv B T (j1 : Nat) l st w1 w' := fun w1 h1 => take_mv (k := j1) 116 116 rfl false j1 hlen (by omega) (by rw [hT]; exact .inr ⟨by rw [hc]; decide, rfl, rfl⟩) w1 h1
  have t3 : ∀ w1, Sb B T (j1 : Nat) l st w1 → Calls Tryd.prog 56 #[.pointer (some ⟨B, 0, none⟩), .int .u8 34] w1 fun e w' => e = .returned (.bool false) ∧ Mv B T (j1 : Nat) l st w1 w' := fun w1 h1 => take_mv (k := j1) 34 34 rfl false j1 hlen (by omega) (by rw [hT]; exact .inr ⟨by rw [hc]; decide, rfl, rfl⟩) w1 h1
  have t4 : ∀ w1, Sb B T (j1 : Nat) l st w1 → Calls Tryd.prog 56 #[.pointer (some ⟨B, 0, none⟩), .int .u8 92] w1 fun e w' => e = .returned (.bool false) ∧ Mv B T (j1 : Nat) l st w1 w' := fun w1 h1 => take_mv (k := j1) 92 92 rfl false j1 hlen (by omega) (by rw [hT]; exact .inr ⟨by rw [hc]; decide, rfl, rfl⟩) w1 h1
  have t5 : ∀ w1, Sb B T (j1 : Nat) l st w1 → Calls Tryd.prog 56 #[.pointer (some ⟨B, 0, none⟩), .int .u8 120] w1 fun e w' => e = .returned (.bool true) ∧ Mv B T (j2 : Nat) l st w1 w' := fun w1 h1 => take_mv (k := j1) 120 120 rfl true j2 hlen (by omega) (by rw [hT]; exact .inl ⟨hc, rfl, hj2⟩) w1 h1
  have hb := fun w1 (h1 : Sb B T (j2 : Nat) l st w1) => hexbyte_c L hT hlen (by omega) x y hx2 hxd j3 hj3 hy hyd w1 h1
  clear hT hlen hx hc hs hj hj1 hj2 hx2 hxd hy hyd hj3
  generalize (Rd.dw x : Int) * 16 + (Rd.dw y : Int) = val at *
  go_enter Tryd.func81, Tryd.ntmps81
  go_wp2_with fail
  refine (t0 _ h).mono ?_
  rintro en w1 ⟨rfl, m1⟩
  have n1 := m1
  clear m1 t0
  go_wp2_with fail
  refine (t1 _ n1.2).mono ?_
  rintro en w2 ⟨rfl, m2⟩
  have n2 := n1.trans m2
  clear n1
  clear m2 t1
  go_wp2_with fail
  refine (t2 _ n2.2).mono ?_
  rintro en w3 ⟨rfl, m3⟩
  have n3 := n2.trans m3
  clear n2
  clear m3 t2
  go_wp2_with fail
  refine (t3 _ n3.2).mono ?_
  rintro en w4 ⟨rfl, m4⟩
  have n4 := n3.trans m4
  clear n3
  clear m4 t3
  go_wp2_with fail
  refine (t4 _ n4.2).mono ?_
  rintro en w5 ⟨rfl, m5⟩
  have n5 := n4.trans m5
  clear n4
  clear m5 t4
  go_wp2_with fail
  refine (t5 _ n5.2).mono ?_
  rintro en w6 ⟨rfl, m6⟩
  have n6 := n5.trans m6
  clear n5
  clear m6 t5
  have hb1 := hb _ n6.2
  have HZ : Hid (Mv B T (j2 : Nat) l st w w6) := n6
  clear n6 h hb
  go_wp2_with fail
  refine hb1.mono ?_
  rintro en w9 ⟨rfl, m9⟩
  have HY : Hid (Mv B T (((j3 + 1) : Nat) : Int) l st w w9) := (show Mv B T (j2 : Nat) l st w w6 from HZ).trans m9
  clear hb1 m9 HZ
  go_wp2_with fail
  go_ret2
  exact ⟨rfl, HY⟩
set_option maxRecDepth 100000 in
set_option maxHeartbeats 2000000 in
theorem el_none {B : Nat} {T : ByteArray} (L : List UInt8) (hT : T.data.toList = L) {j : Nat} {l : Int} {st : Bool} (hlen : T.size ≤ 65536) (j1 : Nat) (hj1 : j1 = j + 1) (hx : L[j]? = some 92) (hc : L[j1]? ≠ some 110 ∧ L[j1]? ≠ some 116 ∧ L[j1]? ≠ some 34 ∧ L[j1]? ≠ some 92 ∧ L[j1]? ≠ some 120) (w : World) (h : Sb B T j l st w) :
    Calls Tryd.prog 81 #[.pointer (some ⟨B, 0, none⟩)] w fun e w' => e = .returned (.tuple #[.int .u8 0, .bool false]) ∧ Mv B T (j1 : Int) l st w w' := by
  have hs : T.size = L.length := by rw [← hT]; simp
  have hj : j < L.length := (List.getElem?_eq_some_iff.1 hx).1
  obtain ⟨c1, c2, c3, c4, c5⟩ := hc
  have t0 : ∀ w1, Sb B T (j : Nat) l st w1 → Calls Tryd.prog 56 #[.pointer (some ⟨B, 0, none⟩), .int .u8 92] w1 fun e w' => e = .returned (.bool true) ∧ Mv B T (j1 : Nat) l st w1 w' := fun w1 h1 => take_mv (k := j) 92 92 rfl true j1 hlen (by omega) (by rw [hT]; exact .inl ⟨hx, rfl, hj1⟩) w1 h1
  have t1 : ∀ w1, Sb B T (j1 : Nat) l st w1 → Calls Tryd.prog 56 #[.pointer (some ⟨B, 0, none⟩), .int .u8 110] w1 fun e w' => e = .returned (.bool false) ∧ Mv B T (j1 : Nat) l st w1 w' := fun w1 h1 => take_mv (k := j1) 110 110 rfl false j1 hlen (by omega) (by rw [hT]; exact .inr ⟨c1, rfl, rfl⟩) w1 h1
  have t2 : ∀ w1, Sb B T (j1 : Nat) l st w1 → Calls Tryd.prog 56 #[.pointer (some ⟨B, 0, none⟩), .int .u8 116] w1 fun e w' => e = .returned (.bool false) ∧ Mv B T (j1 : Nat) l st w1 w' := fun w1 h1 => take_mv (k := j1) 116 116 rfl false j1 hlen (by omega) (by rw [hT]; exact .inr ⟨c2, rfl, rfl⟩) w1 h1
  have t3 : ∀ w1, Sb B T (j1 : Nat) l st w1 → Calls Tryd.prog 56 #[.pointer (some ⟨B, 0, none⟩), .int .u8 34] w1 fun e w' => e = .returned (.bool false) ∧ Mv B T (j1 : Nat) l st w1 w' := fun w1 h1 => take_mv (k := j1) 34 34 rfl false j1 hlen (by omega) (by rw [hT]; exact .inr ⟨c3, rfl, rfl⟩) w1 h1
  have t4 : ∀ w1, Sb B T (j1 : Nat) l st w1 → Calls Tryd.prog 56 #[.pointer (some ⟨B, 0, none⟩), .int .u8 92] w1 fun e w' => e = .returned (.bool false) ∧ Mv B T (j1 : Nat) l st w1 w' := fun w1 h1 => take_mv (k := j1) 92 92 rfl false j1 hlen (by omega) (by rw [hT]; exact .inr ⟨c4, rfl, rfl⟩) w1 h1
  have t5 : ∀ w1, Sb B T (j1 : Nat) l st w1 → Calls Tryd.prog 56 #[.pointer (some ⟨B, 0, none⟩), .int .u8 120] w1 fun e w' => e = .returned (.bool false) ∧ Mv B T (j1 : Nat) l st w1 w' := fun w1 h1 => take_mv (k := j1) 120 120 rfl false j1 hlen (by omega) (by rw [hT]; exact .inr ⟨c5, rfl, rfl⟩) w1 h1
  clear hT hlen hx c1 c2 c3 c4 c5 hs hj hj1
  go_enter Tryd.func81, Tryd.ntmps81
  go_wp2_with fail
  refine (t0 _ h).mono ?_
  rintro en w1 ⟨rfl, m1⟩
  have n1 := m1
  clear m1 t0
  go_wp2_with fail
  refine (t1 _ n1.2).mono ?_
  rintro en w2 ⟨rfl, m2⟩
  have n2 := n1.trans m2
  clear n1
  clear m2 t1
  go_wp2_with fail
  refine (t2 _ n2.2).mono ?_
  rintro en w3 ⟨rfl, m3⟩
  have n3 := n2.trans m3
  clear n2
  clear m3 t2
  go_wp2_with fail
  refine (t3 _ n3.2).mono ?_
  rintro en w4 ⟨rfl, m4⟩
  have n4 := n3.trans m4
  clear n3
  clear m4 t3
  go_wp2_with fail
  refine (t4 _ n4.2).mono ?_
  rintro en w5 ⟨rfl, m5⟩
  have n5 := n4.trans m5
  clear n4
  clear m5 t4
  go_wp2_with fail
  refine (t5 _ n5.2).mono ?_
  rintro en w6 ⟨rfl, m6⟩
  have n6 := n5.trans m6
  clear n5
  clear m6 t5
  have HZ : Hid (Mv B T (j1 : Int) l st w w6) := n6
  clear n6 h
  go_wp2_with fail
  go_ret2
  exact ⟨rfl, HZ⟩
theorem impl_elt {B : Nat} {T : ByteArray} (L : List UInt8) (hT : T.data.toList = L) {j : Nat} {l : Int} {st : Bool} (hlen : T.size ≤ 65536) {ok : Bool} {v : Int} {e : Nat} (he : Elt L j ok v e) (w : World) (h : Sb B T j l st w) :
    Calls Tryd.prog 81 #[.pointer (some ⟨B, 0, none⟩)] w fun en w' => en = .returned (.tuple #[.int .u8 v, .bool ok]) ∧ Mv B T (e : Int) l st w w' := by
  cases he with
  | plain x hx h92 => exact el_plain L hT hlen x hx h92 w h
  | simple c v hx hc hv =>
    rcases hv with ⟨rfl, rfl⟩ | ⟨rfl, rfl⟩ | ⟨rfl, rfl⟩ | ⟨rfl, rfl⟩
    · exact el_n L hT hlen (j + 1) rfl hx hc w h
    · exact el_t L hT hlen (j + 1) rfl hx hc w h
    · exact el_q L hT hlen (j + 1) rfl hx hc w h
    · exact el_b L hT hlen (j + 1) rfl hx hc w h
  | hex x y hx hc h2 hxd hy hyd => exact el_xc L hT hlen (j + 1) (j + 2) rfl rfl hx hc x y h2 hxd (j + 3) rfl hy hyd w h
  | hexA hx hc hno => exact el_xa L hT hlen (j + 1) (j + 2) rfl rfl hx hc hno w h
  | hexB x hx hc h2 hxd hno => exact el_xb L hT hlen (j + 1) (j + 2) rfl rfl hx hc x h2 hxd (j + 3) rfl hno w h
  | none hx hc => exact el_none L hT hlen (j + 1) rfl hx hc w h
end Go.Proofs.YtogenhnonjkanaaDoor
