import Derived.Test.YtogenhnonjkanaaDoorSba
namespace Go.Proofs.YtogenhnonjkanaaDoor
open Go.ChangeShapes Go.WideShapes Go.ChangeAt Go.RowKit
set_option linter.unusedVariables false
/-- no hexadecimal digit stands there -/
def NoHex (L : List UInt8) (j : Nat) : Prop := L.length ≤ j ∨ ∃ x, L[j]? = some x ∧ 16 ≤ Rd.dw x
theorem nohex_or (L : List UInt8) (j : Nat) : NoHex L j ∨ ∃ x, L[j]? = some x ∧ Rd.dw x < 16 := by
  cases h : L[j]? with
  | none => exact .inl (.inl (List.getElem?_eq_none_iff.1 h))
  | some x =>
    rcases Nat.lt_or_ge (Rd.dw x) 16 with g | g
    · exact .inr ⟨x, rfl, g⟩
    · exact .inl (.inr ⟨x, h, g⟩)
set_option maxRecDepth 100000 in
set_option maxHeartbeats 2000000 in
theorem hexbyte_a {B : Nat} {T : ByteArray} (L : List UInt8) (hT : T.data.toList = L) {j : Nat} {l : Int} {st : Bool} (hlen : T.size ≤ 65536) (hj : j ≤ L.length) (hno : NoHex L j) (w : World) (h : Sb B T j l st w) :
    Calls Tryd.prog 93 #[.pointer (some ⟨B, 0, none⟩)] w fun e w' => e = .returned (.tuple #[.int .u8 0, .bool false]) ∧ Mv B T j l st w w' := by
  have m0 := Mv.refl h
  clear h
  have hs : T.size = L.length := by rw [← hT]; simp
  have HX : IxAll T L := fun j c hj => ix T L hT j c hj
  have HID : Hid (∀ (c : UInt8) (w : World), Calls Tryd.prog 91 #[.int .u8 (c.toNat : Int)] w fun e w' => e = .returned (.int .i64 (Rd.dw c : Int)) ∧ w' = w) := Rd.impl_dig
  obtain ⟨M, hM, hLM⟩ : ∃ M : Int, M ≤ 65536 ∧ (L.length : Int) ≤ M := ⟨L.length, by omega, Int.le_refl _⟩
  clear hT hlen
  go_enter Tryd.func93, Tryd.ntmps93
  go_wp2_with fail
  refine wp_loop_rounds 1 ?_
  rw [rounds_succ]
  rcases hno with hend | ⟨y, hy, hyd⟩
  · have he := ended_in B T (j : Int) l st true (by simp; omega) w m0.2
    have b0 := m0.2.c0
    have b1 := m0.2.c1
    have HF : Hid (∀ q, Mv B T (j : Int) l st w (w.drewN q)) := (fun q => ⟨m0.1.drewN q, m0.2⟩ : ∀ q, Mv B T (j : Int) l st w (w.drewN q))
    clear HX HID m0
    go_wp2_with fail
    go_quiet ((first | (go_at_call 40; exact he _)))
    go_wp2_with fail
    go_ret2
    exact ⟨rfl, (show ∀ q, _ from HF) nq⟩
  · have hlt : j < L.length := (List.getElem?_eq_some_iff.1 hy).1
    have he := ended_in B T (j : Int) l st false (by simp; omega) w m0.2
    have b0 := m0.2.c0
    have b1 := m0.2.c1
    have hix := HX _ _ hy
    have hdig := (show ∀ (c : UInt8) (w : World), _ from HID) y
    have hyI : (16 : Int) ≤ (Rd.dw y : Int) := by omega
    have HF : Hid (∀ q, Mv B T (j : Int) l st w (w.drewN q)) := (fun q => ⟨m0.1.drewN q, m0.2⟩ : ∀ q, Mv B T (j : Int) l st w (w.drewN q))
    clear HX HID m0 hy hyd hlt
    generalize (Rd.dw y : Int) = dd at *
    generalize (y.toNat : Int) = yi at *
    go_wp2_with fail
    go_quiet ((first | (go_at_call 40; exact he _) | (go_at_call 91; exact Calls.quiet_of_same (hdig _))))
    go_wp2_with fail
    go_ret2
    exact ⟨rfl, (show ∀ q, _ from HF) nq⟩
set_option maxRecDepth 100000 in
set_option maxHeartbeats 2000000 in
theorem hexbyte_b {B : Nat} {T : ByteArray} (L : List UInt8) (hT : T.data.toList = L) {j : Nat} {l : Int} {st : Bool} (hlen : T.size ≤ 65536) (hj : j ≤ L.length) (x : UInt8) (hx : L[j]? = some x) (hxd : Rd.dw x < 16) (j1 : Nat) (hj1 : j1 = j + 1) (hno : NoHex L j1) (w : World) (h : Sb B T j l st w) :
    Calls Tryd.prog 93 #[.pointer (some ⟨B, 0, none⟩)] w fun e w' => e = .returned (.tuple #[.int .u8 0, .bool false]) ∧ Mv B T (j1 : Int) l st w w' := by
  have m0 := Mv.refl h
  have HJ1 : Hid (j1 = j + 1) := hj1
  clear h hj1
  have hs : T.size = L.length := by rw [← hT]; simp
  have HX : IxAll T L := fun j c hj => ix T L hT j c hj
  have HID : Hid (∀ (c : UInt8) (w : World), Calls Tryd.prog 91 #[.int .u8 (c.toNat : Int)] w fun e w' => e = .returned (.int .i64 (Rd.dw c : Int)) ∧ w' = w) := Rd.impl_dig
  obtain ⟨M, hM, hLM⟩ : ∃ M : Int, M ≤ 65536 ∧ (L.length : Int) ≤ M := ⟨L.length, by omega, Int.le_refl _⟩
  clear hT hlen
  go_enter Tryd.func93, Tryd.ntmps93
  go_wp2_with fail
  refine wp_loop_rounds 2 ?_
  rw [rounds_succ]
  have hlt1 : j < L.length := (List.getElem?_eq_some_iff.1 hx).1
  have he := ended_in B T (j : Int) l st false (by simp; omega) w m0.2
  have b0 := m0.2.c0
  have b1 := m0.2.c1
  have hix := HX _ _ hx
  have hdig := (show ∀ (c : UInt8) (w : World), _ from HID) x
  have hxI : (Rd.dw x : Int) < 16 := by omega
  have hx0 : (0 : Int) ≤ (Rd.dw x : Int) := by omega
  have hkM : (j : Int) ≤ M := by omega
  have HXH : Hid (IxAll T L) := HX
  have HC : Hid (Mv B T (j : Int) l st w w) := m0
  clear HX m0
  generalize hgd1 : (Rd.dw x : Int) = d1 at *
  generalize (x.toNat : Int) = xi1 at hix hdig
  go_wp2_with fail
  go_quiet ((first | (go_at_call 40; exact he _) | (go_at_call 91; exact Calls.quiet_of_same (hdig _))))
  obtain ⟨V1, hV1, m1⟩ : ∃ V, V = w.drewN nq ∧ Mv B T (j : Int) l st w V := ⟨_, rfl, ⟨HC.1.drewN nq, HC.2⟩⟩
  rw [← hV1]
  clear b0 b1 he hV1 HC
  have b0 := m1.2.c0
  have b1 := m1.2.c1
  have HC : Hid (Mv B T (j : Int) l st w V1) := m1
  clear m1
  go_wp2_with fail
  go_quiet ((first | (go_at_call 91; exact Calls.quiet_of_same (hdig _))))
  obtain ⟨U1, hU1, m1⟩ : ∃ V, V = V1.drewN nq ∧ Mv B T (j : Int) l st w V := ⟨_, rfl, ⟨HC.1.drewN nq, HC.2⟩⟩
  rw [← hU1]
  clear b0 b1 hU1 HC hdig hix
  have b1 := m1.2.c1
  have f1 := m1.2.fz 1
  have n1 : Mv B T ((j + 1 : Nat) : Int) l st w (U1.setCell ⟨B, 1, none⟩ (.int .i64 ((j : Int) + 1))) := ⟨m1.1.setCell 1 _, m1.2.set1 _⟩
  have HN1 : Hid (Mv B T ((j + 1 : Nat) : Int) l st w (U1.setCell ⟨B, 1, none⟩ (.int .i64 ((j : Int) + 1)))) := n1
  clear m1 n1
  go_wp2_with fail
  rw [rounds_succ]
  obtain ⟨Z, hZ, mz⟩ : ∃ Z, Z = U1.setCell ⟨B, 1, none⟩ (.int .i64 ((j : Int) + 1)) ∧ Mv B T ((j + 1 : Nat) : Int) l st w Z := ⟨_, rfl, HN1⟩
  rw [← hZ]
  clear HN1 hZ b1 f1
  have HX : IxAll T L := HXH
  clear HXH
  have hj1 := (show j1 = j + 1 from HJ1)
  rw [← hj1] at mz
  have hj1L : j1 ≤ L.length := by omega
  clear hj1 HJ1
  rcases hno with hend | ⟨y, hy, hyd⟩
  · have he := ended_in B T (j1 : Int) l st true (by simp; omega) Z mz.2
    have b0 := mz.2.c0
    have b1 := mz.2.c1
    have HF : Hid (∀ q, Mv B T (j1 : Int) l st w (Z.drewN q)) := (fun q => ⟨mz.1.drewN q, mz.2⟩ : ∀ q, Mv B T (j1 : Int) l st w (Z.drewN q))
    clear HX HID mz
    go_wp2_with fail
    go_quiet ((first | (go_at_call 40; exact he _)))
    go_wp2_with fail
    go_ret2
    exact ⟨rfl, (show ∀ q, _ from HF) nq⟩
  · have hlt : j1 < L.length := (List.getElem?_eq_some_iff.1 hy).1
    have he := ended_in B T (j1 : Int) l st false (by simp; omega) Z mz.2
    have b0 := mz.2.c0
    have b1 := mz.2.c1
    have hix := HX _ _ hy
    have hdig := (show ∀ (c : UInt8) (w : World), _ from HID) y
    have hyI : (16 : Int) ≤ (Rd.dw y : Int) := by omega
    have HF : Hid (∀ q, Mv B T (j1 : Int) l st w (Z.drewN q)) := (fun q => ⟨mz.1.drewN q, mz.2⟩ : ∀ q, Mv B T (j1 : Int) l st w (Z.drewN q))
    clear HX HID mz hy hyd hlt
    generalize (Rd.dw y : Int) = dd at *
    generalize (y.toNat : Int) = yi at *
    go_wp2_with fail
    go_quiet ((first | (go_at_call 40; exact he _) | (go_at_call 91; exact Calls.quiet_of_same (hdig _))))
    go_wp2_with fail
    go_ret2
    exact ⟨rfl, (show ∀ q, _ from HF) nq⟩
set_option maxRecDepth 100000 in
set_option maxHeartbeats 2000000 in
theorem hexbyte_c {B : Nat} {T : ByteArray} (L : List UInt8) (hT : T.data.toList = L) {j : Nat} {l : Int} {st : Bool} (hlen : T.size ≤ 65536) (hj : j ≤ L.length) (x y : UInt8) (hx : L[j]? = some x) (hxd : Rd.dw x < 16) (j1 : Nat) (hj1 : j1 = j + 1) (hy : L[j1]? = some y) (hyd : Rd.dw y < 16) (w : World) (h : Sb B T j l st w) :
    Calls Tryd.prog 93 #[.pointer (some ⟨B, 0, none⟩)] w fun e w' => e = .returned (.tuple #[.int .u8 ((Rd.dw x : Int) * 16 + (Rd.dw y : Int)), .bool true]) ∧ Mv B T ((j1 + 1 : Nat) : Int) l st w w' := by
  have m0 := Mv.refl h
  have HJ1 : Hid (j1 = j + 1) := hj1
  clear h hj1
  have hs : T.size = L.length := by rw [← hT]; simp
  have HX : IxAll T L := fun j c hj => ix T L hT j c hj
  have HID : Hid (∀ (c : UInt8) (w : World), Calls Tryd.prog 91 #[.int .u8 (c.toNat : Int)] w fun e w' => e = .returned (.int .i64 (Rd.dw c : Int)) ∧ w' = w) := Rd.impl_dig
  obtain ⟨M, hM, hLM⟩ : ∃ M : Int, M ≤ 65536 ∧ (L.length : Int) ≤ M := ⟨L.length, by omega, Int.le_refl _⟩
  clear hT hlen
  go_enter Tryd.func93, Tryd.ntmps93
  go_wp2_with fail
  refine wp_loop_rounds 3 ?_
  rw [rounds_succ]
  have hlt1 : j < L.length := (List.getElem?_eq_some_iff.1 hx).1
  have he := ended_in B T (j : Int) l st false (by simp; omega) w m0.2
  have b0 := m0.2.c0
  have b1 := m0.2.c1
  have hix := HX _ _ hx
  have hdig := (show ∀ (c : UInt8) (w : World), _ from HID) x
  have hxI : (Rd.dw x : Int) < 16 := by omega
  have hx0 : (0 : Int) ≤ (Rd.dw x : Int) := by omega
  have hkM : (j : Int) ≤ M := by omega
  have HXH : Hid (IxAll T L) := HX
  have HC : Hid (Mv B T (j : Int) l st w w) := m0
  clear HX m0
  generalize hgd1 : (Rd.dw x : Int) = d1 at *
  generalize (x.toNat : Int) = xi1 at hix hdig
  go_wp2_with fail
  go_quiet ((first | (go_at_call 40; exact he _) | (go_at_call 91; exact Calls.quiet_of_same (hdig _))))
  obtain ⟨V1, hV1, m1⟩ : ∃ V, V = w.drewN nq ∧ Mv B T (j : Int) l st w V := ⟨_, rfl, ⟨HC.1.drewN nq, HC.2⟩⟩
  rw [← hV1]
  clear b0 b1 he hV1 HC
  have b0 := m1.2.c0
  have b1 := m1.2.c1
  have HC : Hid (Mv B T (j : Int) l st w V1) := m1
  clear m1
  go_wp2_with fail
  go_quiet ((first | (go_at_call 91; exact Calls.quiet_of_same (hdig _))))
  obtain ⟨U1, hU1, m1⟩ : ∃ V, V = V1.drewN nq ∧ Mv B T (j : Int) l st w V := ⟨_, rfl, ⟨HC.1.drewN nq, HC.2⟩⟩
  rw [← hU1]
  clear b0 b1 hU1 HC hdig hix
  have b1 := m1.2.c1
  have f1 := m1.2.fz 1
  have n1 : Mv B T ((j + 1 : Nat) : Int) l st w (U1.setCell ⟨B, 1, none⟩ (.int .i64 ((j : Int) + 1))) := ⟨m1.1.setCell 1 _, m1.2.set1 _⟩
  have HN1 : Hid (Mv B T ((j + 1 : Nat) : Int) l st w (U1.setCell ⟨B, 1, none⟩ (.int .i64 ((j : Int) + 1)))) := n1
  clear m1 n1
  go_wp2_with fail
  rw [rounds_succ]
  obtain ⟨Z, hZ, mz⟩ : ∃ Z, Z = U1.setCell ⟨B, 1, none⟩ (.int .i64 ((j : Int) + 1)) ∧ Mv B T ((j + 1 : Nat) : Int) l st w Z := ⟨_, rfl, HN1⟩
  rw [← hZ]
  clear HN1 hZ b1 f1
  have HX : IxAll T L := HXH
  clear HXH hxI hx0 hkM
  have hd1a : d1 < 16 := by omega
  have hd1b : 0 ≤ d1 := by omega
  have hj1 := (show j1 = j + 1 from HJ1)
  rw [← hj1] at mz
  clear hj1 HJ1
  have hlt2 : j1 < L.length := (List.getElem?_eq_some_iff.1 hy).1
  have he := ended_in B T (j1 : Int) l st false (by simp; omega) Z mz.2
  have b0 := mz.2.c0
  have b1 := mz.2.c1
  have hix := HX _ _ hy
  have hdig := (show ∀ (c : UInt8) (w : World), _ from HID) y
  have hxI : (Rd.dw y : Int) < 16 := by omega
  have hx0 : (0 : Int) ≤ (Rd.dw y : Int) := by omega
  have hkM : (j1 : Int) ≤ M := by omega
  have HXH : Hid (IxAll T L) := HX
  have HC : Hid (Mv B T (j1 : Int) l st w Z) := mz
  clear HX mz
  generalize hgd2 : (Rd.dw y : Int) = d2 at *
  generalize (y.toNat : Int) = xi2 at hix hdig
  go_wp2_with fail
  go_quiet ((first | (go_at_call 40; exact he _) | (go_at_call 91; exact Calls.quiet_of_same (hdig _))))
  obtain ⟨V2, hV2, m2⟩ : ∃ V, V = Z.drewN nq ∧ Mv B T (j1 : Int) l st w V := ⟨_, rfl, ⟨HC.1.drewN nq, HC.2⟩⟩
  rw [← hV2]
  clear b0 b1 he hV2 HC
  have b0 := m2.2.c0
  have b1 := m2.2.c1
  have HC : Hid (Mv B T (j1 : Int) l st w V2) := m2
  clear m2
  go_wp2_with fail
  go_quiet ((first | (go_at_call 91; exact Calls.quiet_of_same (hdig _))))
  obtain ⟨U2, hU2, m2⟩ : ∃ V, V = V2.drewN nq ∧ Mv B T (j1 : Int) l st w V := ⟨_, rfl, ⟨HC.1.drewN nq, HC.2⟩⟩
  rw [← hU2]
  clear b0 b1 hU2 HC hdig hix
  have b1 := m2.2.c1
  have f1 := m2.2.fz 1
  have n2 : Mv B T ((j1 + 1 : Nat) : Int) l st w (U2.setCell ⟨B, 1, none⟩ (.int .i64 ((j1 : Int) + 1))) := ⟨m2.1.setCell 1 _, m2.2.set1 _⟩
  have HN2 : Hid (Mv B T ((j1 + 1 : Nat) : Int) l st w (U2.setCell ⟨B, 1, none⟩ (.int .i64 ((j1 : Int) + 1)))) := n2
  clear m2 n2
  go_wp2_with fail
  rw [rounds_succ]
  go_wp2_with fail
  go_ret2
  exact ⟨by rw [hgd1, hgd2]; rfl, HN2⟩
end Go.Proofs.YtogenhnonjkanaaDoor
