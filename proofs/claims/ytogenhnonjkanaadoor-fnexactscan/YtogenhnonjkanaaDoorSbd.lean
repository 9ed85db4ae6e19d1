import Derived.Test.YtogenhnonjkanaaDoorSbc
namespace Go.Proofs.YtogenhnonjkanaaDoor
open Go.ChangeShapes Go.WideShapes Go.ChangeAt Go.RowKit
set_option linter.unusedVariables false
set_option maxRecDepth 100000 in
set_option maxHeartbeats 2000000 in
theorem el_plain {B : Nat} {T : ByteArray} (L : List UInt8) (hT : T.data.toList = L) {j : Nat} {l : Int} {st : Bool} (hlen : T.size ≤ 65536) (x : UInt8) (hx : L[j]? = some x) (h92 : x ≠ 92) (w : World) (h : Sb B T j l st w) :
    Calls Tryd.prog 81 #[.pointer (some ⟨B, 0, none⟩)] w fun e w' => e = .returned (.tuple #[.int .u8 (x.toNat : Int), .bool true]) ∧ Mv B T ((j + 1 : Nat) : Int) l st w w' := by
  have hs : T.size = L.length := by rw [← hT]; simp
  have hj : j < L.length := (List.getElem?_eq_some_iff.1 hx).1
  have t0 : ∀ w1, Sb B T (j : Nat) l st w1 → Calls Tryd.prog 56 #[.pointer (some ⟨B, 0, none⟩), .int .u8 92] w1 fun e w' => e = .returned (.bool false) ∧ Mv B T (j : Nat) l st w1 w' := fun w1 h1 => take_mv (k := j) 92 92 rfl false j hlen (by omega) (by rw [hT]; exact .inr ⟨by rw [hx]; intro g; exact h92 (Option.some.inj g), rfl, rfl⟩) w1 h1
  have hix := ix T L hT j x hx
  obtain ⟨M, hM, hLM⟩ : ∃ M : Int, M ≤ 65536 ∧ (j : Int) < M := ⟨T.size, by omega, by omega⟩
  clear hT hlen hx h92 hs hj
  generalize (x.toNat : Int) = xi at *
  go_enter Tryd.func81, Tryd.ntmps81
  go_wp2_with fail
  refine (t0 _ h).mono ?_
  rintro en w1 ⟨rfl, m1⟩
  have n1 := m1
  clear m1 t0
  have b1 := n1.2.c1
  have f1 := n1.2.fz 1
  have mz : Mv B T ((j + 1 : Nat) : Int) l st w (w1.setCell ⟨B, 1, none⟩ (.int .i64 ((j : Int) + 1))) := ⟨n1.1.setCell 1 _, n1.2.set1 _⟩
  obtain ⟨Z, hZ, HZ⟩ : ∃ Z, Z = w1.setCell ⟨B, 1, none⟩ (.int .i64 ((j : Int) + 1)) ∧ Hid (Mv B T ((j + 1 : Nat) : Int) l st w Z) := ⟨_, rfl, mz⟩
  have b0 : Z.cell? ⟨B, 0, none⟩ = some (.string T) := HZ.2.c0
  have d1 : Z.cell? ⟨B, 1, none⟩ = some (.int .i64 ((j : Int) + 1)) := by have := HZ.2.c1; simpa using this
  clear n1 mz h
  go_wp2_with fail
  rw [← hZ]
  clear hZ b1 f1
  go_quiet (fail)
  go_wp2_with fail
  go_ret2
  exact ⟨rfl, HZ.1.drewN nq, HZ.2⟩
set_option maxRecDepth 100000 in
set_option maxHeartbeats 2000000 in
theorem el_n {B : Nat} {T : ByteArray} (L : List UInt8) (hT : T.data.toList = L) {j : Nat} {l : Int} {st : Bool} (hlen : T.size ≤ 65536) (j1 : Nat) (hj1 : j1 = j + 1) (hx : L[j]? = some 92) (hc : L[j1]? = some 110) (w : World) (h : Sb B T j l st w) :
    Calls Tryd.prog 81 #[.pointer (some ⟨B, 0, none⟩)] w fun e w' => e = .returned (.tuple #[.int .u8 10, .bool true]) ∧ Mv B T ((j1 + 1 : Nat) : Int) l st w w' := by
  have hs : T.size = L.length := by rw [← hT]; simp
  have hj : j1 < L.length := (List.getElem?_eq_some_iff.1 hc).1
  have t0 : ∀ w1, Sb B T (j : Nat) l st w1 → Calls Tryd.prog 56 #[.pointer (some ⟨B, 0, none⟩), .int .u8 92] w1 fun e w' => e = .returned (.bool true) ∧ Mv B T (j1 : Nat) l st w1 w' := fun w1 h1 => take_mv (k := j) 92 92 rfl true j1 hlen (by omega) (by rw [hT]; exact .inl ⟨hx, rfl, hj1⟩) w1 h1
  have t1 : ∀ w1, Sb B T (j1 : Nat) l st w1 → Calls Tryd.prog 56 #[.pointer (some ⟨B, 0, none⟩), .int .u8 110] w1 fun e w' => e = .returned (.bool true) ∧ Mv B T ((j1 + 1) : Nat) l st w1 w' := fun w1 h1 => take_mv (k := j1) 110 110 rfl true (j1 + 1) hlen (by omega) (by rw [hT]; exact .inl ⟨hc, rfl, rfl⟩) w1 h1
  clear hT hlen hx hc hs hj hj1
  go_enter Tryd.func81, Tryd.ntmps81
  go_wp2_with fail
  refine (t0 _ h).mono ?_
  rintro en w1 ⟨rfl, m1⟩
  have n1 := m1
  clear m1 t0
  go_wp2_with fail
  refine (t1 _ n1.2).mono ?_
  rintro en w2 ⟨rfl, m2⟩
  have n2 := n1.trans m2
  clear n1
  clear m2 t1
  have HZ : Hid (Mv B T ((j1 + 1 : Nat) : Int) l st w w2) := n2
  clear n2 h
  go_wp2_with fail
  go_ret2
  exact ⟨rfl, HZ⟩
set_option maxRecDepth 100000 in
set_option maxHeartbeats 2000000 in
theorem el_t {B : Nat} {T : ByteArray} (L : List UInt8) (hT : T.data.toList = L) {j : Nat} {l : Int} {st : Bool} (hlen : T.size ≤ 65536) (j1 : Nat) (hj1 : j1 = j + 1) (hx : L[j]? = some 92) (hc : L[j1]? = some 116) (w : World) (h : Sb B T j l st w) :
    Calls Tryd.prog 81 #[.pointer (some ⟨B, 0, none⟩)] w fun e w' => e = .returned (.tuple #[.int .u8 9, .bool true]) ∧ Mv B T ((j1 + 1 : Nat) : Int) l st w w' := by
  have hs : T.size = L.length := by rw [← hT]; simp
  have hj : j1 < L.length := (List.getElem?_eq_some_iff.1 hc).1
  have t0 : ∀ w1, Sb B T (j : Nat) l st w1 → Calls Tryd.prog 56 #[.pointer (some ⟨B, 0, none⟩), .int .u8 92] w1 fun e w' => e = .returned (.bool true) ∧ Mv B T (j1 : Nat) l st w1 w' := fun w1 h1 => take_mv (k := j) 92 92 rfl true j1 hlen (by omega) (by rw [hT]; exact .inl ⟨hx, rfl, hj1⟩) w1 h1
  have t1 : ∀ w1, Sb B T (j1 : Nat) l st w1 → Calls Tryd.prog 56 #[.pointer (some ⟨B, 0, none⟩), .int .u8 110] w1 fun e w' => e = .returned (.bool false) ∧ Mv B T (j1 : Nat) l st w1 w' := fun w1 h1 => take_mv (k := j1) 110 110 rfl false j1 hlen (by omega) (by rw [hT]; exact .inr ⟨by rw [hc]; decide, rfl, rfl⟩) w1 h1
  have t2 : ∀ w1, Sb B T (j1 : Nat) l st w1 → Calls Tryd.prog 56 #[.pointer (some ⟨B, 0, none⟩), .int .u8 116] w1 fun e w' => e = .returned (.bool true) ∧ Mv B T ((j1 + 1) : Nat) l st w1 w' := fun w1 h1 => take_mv (k := j1) 116 116 rfl true (j1 + 1) hlen (by omega) (by rw [hT]; exact .inl ⟨hc, rfl, rfl⟩) w1 h1
  clear hT hlen hx hc hs hj hj1
  go_enter Tryd.func81, Tryd.ntmps81
  go_wp2_with fail
  refine (t0 _ h).mono ?_
  rintro en w1 ⟨rfl, m1⟩
  have n1 := m1
  clear m1 t0
  go_wp2_with fail
  refine (t1 _ n1.2).mono ?_
  rintro en w2 ⟨rfl, m2⟩
  have n2 := n1.trans m2
  clear n1
  clear m2 t1
  go_wp2_with fail
  refine (t2 _ n2.2).mono ?_
  rintro en w3 ⟨rfl, m3⟩
  have n3 := n2.trans m3
  clear n2
  clear m3 t2
  have HZ : Hid (Mv B T ((j1 + 1 : Nat) : Int) l st w w3) := n3
  clear n3 h
  go_wp2_with fail
  go_ret2
  exact ⟨rfl, HZ⟩
set_option maxRecDepth 100000 in
set_option maxHeartbeats 2000000 in
theorem el_q {B : Nat} {T : ByteArray} (L : List UInt8) (hT : T.data.toList = L) {j : Nat} {l : Int} {st : Bool} (hlen : T.size ≤ 65536) (j1 : Nat) (hj1 : j1 = j + 1) (hx : L[j]? = some 92) (hc : L[j1]? = some 34) (w : World) (h : Sb B T j l st w) :
    Calls Tryd.prog 81 #[.pointer (some ⟨B, 0, none⟩)] w fun e w' => e = .returned (.tuple #[.int .u8 34, .bool true]) ∧ Mv B T ((j1 + 1 : Nat) : Int) l st w w' := by
  have hs : T.size = L.length := by rw [← hT]; simp
  have hj : j1 < L.length := (List.getElem?_eq_some_iff.1 hc).1
  have t0 : ∀ w1, Sb B T (j : Nat) l st w1 → Calls Tryd.prog 56 #[.pointer (some ⟨B, 0, none⟩), .int .u8 92] w1 fun e w' => e = .returned (.bool true) ∧ Mv B T (j1 : Nat) l st w1 w' := fun w1 h1 => take_mv (k := j) 92 92 rfl true j1 hlen (by omega) (by rw [hT]; exact .inl ⟨hx, rfl, hj1⟩) w1 h1
  have t1 : ∀ w1, Sb B T (j1 : Nat) l st w1 → Calls Tryd.prog 56 #[.pointer (some ⟨B, 0, none⟩), .int .u8 110] w1 fun e w' => e = .returned (.bool false) ∧ Mv B T (j1 : Nat) l st w1 w' := fun w1 h1 => take_mv (k := j1) 110 110 rfl false j1 hlen (by omega) (by rw [hT]; exact .inr ⟨by rw [hc]; decide, rfl, rfl⟩) w1 h1
  have t2 : ∀ w1, Sb B T (j1 : Nat) l st w1 → Calls Tryd.prog 56 #[.pointer (some ⟨B, 0, none⟩), .int .u8 116] w1 fun e w' => e = .returned (.bool false) ∧ Mv B T (j1 : Nat) l st w1 w' := fun w1 h1 => take_mv (k := j1) 116 116 rfl false j1 hlen (by omega) (by rw [hT]; exact .inr ⟨by rw [hc]; decide, rfl, rfl⟩) w1 h1
  have t3 : ∀ w1, Sb B T (j1 : Nat) l st w1 → Calls Tryd.prog 56 #[.pointer (some ⟨B, 0, none⟩), .int .u8 34] w1 fun e w' => e = .returned (.bool true) ∧ Mv B T ((j1 + 1) : Nat) l st w1 w' := fun w1 h1 => take_mv (k := j1) 34 34 rfl true (j1 + 1) hlen (by omega) (by rw [hT]; exact .inl ⟨hc, rfl, rfl⟩) w1 h1
  clear hT hlen hx hc hs hj hj1
  go_enter Tryd.func81, Tryd.ntmps81
  go_wp2_with fail
  refine (t0 _ h).mono ?_
  rintro en w1 ⟨rfl, m1⟩
  have n1 := m1
  clear m1 t0
  go_wp2_with fail
  refine (t1 _ n1.2).mono ?_
  rintro en w2 ⟨rfl, m2⟩
  have n2 := n1.trans m2
  clear n1
  clear m2 t1
  go_wp2_with fail
  refine (t2 _ n2.2).mono ?_
  rintro en w3 ⟨rfl, m3⟩
  have n3 := n2.trans m3
  clear n2
  clear m3 t2
  go_wp2_with fail
  refine (t3 _ n3.2).mono ?_
  rintro en w4 ⟨rfl, m4⟩
  have n4 := n3.trans m4
  clear n3
  clear m4 t3
  have HZ : Hid (Mv B T ((j1 + 1 : Nat) : Int) l st w w4) := n4
  clear n4 h
  go_wp2_with fail
  go_ret2
  exact ⟨rfl, HZ⟩
set_option maxRecDepth 100000 in
set_option maxHeartbeats 2000000 in
theorem el_b {B : Nat} {T : ByteArray} (L : List UInt8) (hT : T.data.toList = L) {j : Nat} {l : Int} {st : Bool} (hlen : T.size ≤ 65536) (j1 : Nat) (hj1 : j1 = j + 1) (hx : L[j]? = some 92) (hc : L[j1]? = some 92) (w : World) (h : Sb B T j l st w) :
    Calls Tryd.prog 81 #[.pointer (some ⟨B, 0, none⟩)] w fun e w' => e = .returned (.tuple #[.int .u8 92, .bool true]) ∧ Mv B T ((j1 + 1 : Nat) : Int) l st w w' := by
  have hs : T.size = L.length := by rw [← hT]; simp
  have hj : j1 < L.length := (List.getElem?_eq_some_iff.1 hc).1
  have t0 : ∀ w1, Sb B T (j : Nat) l st w1 → Calls Tryd.prog 56 #[.pointer (some ⟨B, 0, none⟩), .int .u8 92] w1 fun e w' => e = .returned (.bool true) ∧ Mv B T (j1 : Nat) l st w1 w' := fun w1 h1 => take_mv (k := j) 92 92 rfl true j1 hlen (by omega) (by rw [hT]; exact .inl ⟨hx, rfl, hj1⟩) w1 h1
  have t1 : ∀ w1, Sb B T (j1 : Nat) l st w1 → Calls Tryd.prog 56 #[.pointer (some ⟨B, 0, none⟩), .int .u8 110] w1 fun e w' => e = .returned (.bool false) ∧ Mv B T (j1 : Nat) l st w1 w' := fun w1 h1 => take_mv (k := j1) 110 110 rfl false j1 hlen (by omega) (by rw [hT]; exact .inr ⟨by rw [hc]; decide, rfl, rfl⟩) w1 h1
  have t2 : ∀ w1, Sb B T (j1 : Nat) l st w1 → Calls Tryd.prog 56 #[.pointer (some ⟨B, 0, none⟩), .int .u8 116] w1 fun e w' => e = .returned (.bool false) ∧ Mv B T (j1 : Nat) l st w1 w' := fun w1 h1 => take_mv (k := j1) 116 116 rfl false j1 hlen (by omega) (by rw [hT]; exact .inr ⟨by rw [hc]; decide, rfl, rfl⟩) w1 h1
  have t3 : ∀ w1, Sb B T (j1 : Nat) l st w1 → Calls Tryd.prog 56 #[.pointer (some ⟨B, 0, none⟩), .int .u8 34] w1 fun e w' => e = .returned (.bool false) ∧ Mv B T (j1 : Nat) l st w1 w' := fun w1 h1 => take_mv (k := j1) 34 34 rfl false j1 hlen (by omega) (by rw [hT]; exact .inr ⟨by rw [hc]; decide, rfl, rfl⟩) w1 h1
  have t4 : ∀ w1, Sb B T (j1 : Nat) l st w1 → Calls Tryd.prog 56 #[.pointer (some ⟨B, 0, none⟩), .int .u8 92] w1 fun e w' => e = .returned (.bool true) ∧ Mv B T ((j1 + 1) : Nat) l st w1 w' := fun w1 h1 => take_mv (k := j1) 92 92 rfl true (j1 + 1) hlen (by omega) (by rw [hT]; exact .inl ⟨hc, rfl, rfl⟩) w1 h1
  clear hT hlen hx hc hs hj hj1
  go_enter Tryd.func81, Tryd.ntmps81
  go_wp2_with fail
  refine (t0 _ h).mono ?_
  rintro en w1 ⟨rfl, m1⟩
  have n1 := m1
  clear m1 t0
  go_wp2_with fail
  refine (t1 _ n1.2).mono ?_
  rintro en w2 ⟨rfl, m2⟩
  have n2 := n1.trans m2
  clear n1
  clear m2 t1
  go_wp2_with fail
  refine (t2 _ n2.2).mono ?_
  rintro en w3 ⟨rfl, m3⟩
  have n3 := n2.trans m3
  clear n2
  clear m3 t2
  go_wp2_with fail
  refine (t3 _ n3.2).mono ?_
  rintro en w4 ⟨rfl, m4⟩
  have n4 := n3.trans m4
  clear n3
  clear m4 t3
  go_wp2_with fail
  refine (t4 _ n4.2).mono ?_
  rintro en w5 ⟨rfl, m5⟩
  have n5 := n4.trans m5
  clear n4
  clear m5 t4
  have HZ : Hid (Mv B T ((j1 + 1 : Nat) : Int) l st w w5) := n5
  clear n5 h
  go_wp2_with fail
  go_ret2
  exact ⟨rfl, HZ⟩
set_option maxRecDepth 100000 in
set_option maxHeartbeats 2000000 in
theorem el_xa {B : Nat} {T : ByteArray} (L : List UInt8) (hT : T.data.toList = L) {j : Nat} {l : Int} {st : Bool} (hlen : T.size ≤ 65536) (j1 j2 : Nat) (hj1 : j1 = j + 1) (hj2 : j2 = j1 + 1) (hx : L[j]? = some 92) (hc : L[j1]? = some 120) (hno : NoHex L j2) (w : World) (h : Sb B T j l st w) :
    Calls Tryd.prog 81 #[.pointer (some ⟨B, 0, none⟩)] w fun e w' => e = .returned (.tuple #[.int .u8 0, .bool false]) ∧ Mv B T ((j2 : Nat) : Int) l st w w' := by
  have hs : T.size = L.length := by rw [← hT]; simp
  have hj : j1 < L.length := (List.getElem?_eq_some_iff.1 hc).1
  have t0 : ∀ w1, Sb B T (j : Nat) l st w1 → Calls Tryd.prog 56 #[.pointer (some ⟨B, 0, none⟩), .int .u8 92] w1 fun e w' => e = .returned (.bool true) ∧ Mv B T (j1 : Nat) l st w1 w' := fun w1 h1 => take_mv (k := j) 92 92 rfl true j1 hlen (by omega) (by rw [hT]; exact .inl ⟨hx, rfl, hj1⟩) w1 h1
  have t1 : ∀ w1, Sb B T (j1 : Nat) l st w1 → Calls Tryd.prog 56 #[.pointer (some ⟨B, 0, none⟩), .int .u8 110] w1 fun e w' => e = .returned (.bool false) ∧ Mv B T (j1 : Nat) l st w1 w' := fun w1 h1 => take_mv (k := j1) 110 110 rfl false j1 hlen (by omega) (by rw [hT]; exact .inr ⟨by rw [hc]; decide, rfl, rfl⟩) w1 h1
  have t2 : ∀ w1, Sb B T (j1 : Nat) l st w1 → Calls Tryd.prog 56 #[.pointer (some ⟨B, 0, none⟩), .int .u8 116] w1 fun e w' => e = .returned (.bool false) ∧ Mv B T (j1 : Nat) l st w1 w' := fun w1 h1 => take_mv (k := j1) 116 116 rfl false j1 hlen (by omega) (by rw [hT]; exact .inr ⟨by rw [hc]; decide, rfl, rfl⟩) w1 h1
  have t3 : ∀ w1, Sb B T (j1 : Nat) l st w1 → Calls Tryd.prog 56 #[.pointer (some ⟨B, 0, none⟩), .int .u8 34] w1 fun e w' => e = .returned (.bool false) ∧ Mv B T (j1 : Nat) l st w1 w' := fun w1 h1 => take_mv (k := j1) 34 34 rfl false j1 hlen (by omega) (by rw [hT]; exact .inr ⟨by rw [hc]; decide, rfl, rfl⟩) w1 h1
  have t4 : ∀ w1, Sb B T (j1 : Nat) l st w1 → Calls Tryd.prog 56 #[.pointer (some ⟨B, 0, none⟩), .int .u8 92] w1 fun e w' => e = .returned (.bool false) ∧ Mv B T (j1 : Nat) l st w1 w' := fun w1 h1 => take_mv (k := j1) 92 92 rfl false j1 hlen (by omega) (by rw [hT]; exact .inr ⟨by rw [hc]; decide, rfl, rfl⟩) w1 h1
  have t5 : ∀ w1, Sb B T (j1 : Nat) l st w1 → Calls Tryd.prog 56 #[.pointer (some ⟨B, 0, none⟩), .int .u8 120] w1 fun e w' => e = .returned (.bool true) ∧ Mv B T (j2 : Nat) l st w1 w' := fun w1 h1 => take_mv (k := j1) 120 120 rfl true j2 hlen (by omega) (by rw [hT]; exact .inl ⟨hc, rfl, hj2⟩) w1 h1
  have hb := fun w1 (h1 : Sb B T (j2 : Nat) l st w1) => hexbyte_a L hT hlen (by omega) hno w1 h1
  clear hT hlen hx hc hs hj hj1 hj2 hno
  go_enter Tryd.func81, Tryd.ntmps81
  go_wp2_with fail
  refine (t0 _ h).mono ?_
  rintro en w1 ⟨rfl, m1⟩
  have n1 := m1
  clear m1 t0
  go_wp2_with fail
  refine (t1 _ n1.2).mono ?_
  rintro en w2 ⟨rfl, m2⟩
  have n2 := n1.trans m2
  clear n1
  clear m2 t1
  go_wp2_with fail
  refine (t2 _ n2.2).mono ?_
  rintro en w3 ⟨rfl, m3⟩
  have n3 := n2.trans m3
  clear n2
  clear m3 t2
  go_wp2_with fail
  refine (t3 _ n3.2).mono ?_
  rintro en w4 ⟨rfl, m4⟩
  have n4 := n3.trans m4
  clear n3
  clear m4 t3
  go_wp2_with fail
  refine (t4 _ n4.2).mono ?_
  rintro en w5 ⟨rfl, m5⟩
  have n5 := n4.trans m5
  clear n4
  clear m5 t4
  go_wp2_with fail
  refine (t5 _ n5.2).mono ?_
  rintro en w6 ⟨rfl, m6⟩
  have n6 := n5.trans m6
  clear n5
  clear m6 t5
  have hb1 := hb _ n6.2
  have HZ : Hid (Mv B T (j2 : Nat) l st w w6) := n6
  clear n6 h hb
  go_wp2_with fail
  refine hb1.mono ?_
  rintro en w9 ⟨rfl, m9⟩
  have HY : Hid (Mv B T ((j2 : Nat) : Int) l st w w9) := (show Mv B T (j2 : Nat) l st w w6 from HZ).trans m9
  clear hb1 m9 HZ
  go_wp2_with fail
  go_ret2
  exact ⟨rfl, HY⟩
set_option maxRecDepth 100000 in
set_option maxHeartbeats 2000000 in
theorem el_xb {B : Nat} {T : ByteArray} (L : List UInt8) (hT : T.data.toList = L) {j : Nat} {l : Int} {st : Bool} (hlen : T.size ≤ 65536) (j1 j2 : Nat) (hj1 : j1 = j + 1) (hj2 : j2 = j1 + 1) (hx : L[j]? = some 92) (hc : L[j1]? = some 120) (x : UInt8) (hx2 : L[j2]? = some x) (hxd : Rd.dw x < 16) (j3 : Nat) (hj3 : j3 = j2 + 1) (hno : NoHex L j3) (w : World) (h : Sb B T j l st w) :
    Calls Tryd.prog 81 #[.pointer (some ⟨B, 0, none⟩)] w fun e w' => e = .returned (.tuple #[.int .u8 0, .bool false]) ∧ Mv B T ((j3 : Nat) : Int) l st w w' := by
  have hs : T.size = L.length := by rw [← hT]; simp
  have hj : j1 < L.length := (List.getElem?_eq_some_iff.1 hc).1
  have t0 : ∀ w1, Sb B T (j : Nat) l st w1 → Calls Tryd.prog 56 #[.pointer (some ⟨B, 0, none⟩), .int .u8 92] w1 fun e w' => e = .returned (.bool true) ∧ Mv B T (j1 : Nat) l st w1 w' := fun w1 h1 => take_mv (k := j) 92 92 rfl true j1 hlen (by omega) (by rw [hT]; exact .inl ⟨hx, rfl, hj1⟩) w1 h1
  have t1 : ∀ w1, Sb B T (j1 : Nat) l st w1 → Calls Tryd.prog 56 #[.pointer (some ⟨B, 0, none⟩), .int .u8 110] w1 fun e w' => e = .returned (.bool false) ∧ Mv B T (j1 : Nat) l st w1 w' := fun w1 h1 => take_mv (k := j1) 110 110 rfl false j1 hlen (by omega) (by rw [hT]; exact .inr ⟨by rw [hc]; decide, rfl, rfl⟩) w1 h1
  have t2 : ∀ w1, Sb B T (j1 : Nat) l st w1 → Calls Tryd.prog 56 #[.pointer (some ⟨B, 0, none⟩), .int .u8 116] w1 fun e w' => e = .returned (.bool false) ∧ Mv B T (j1 : Nat) l st w1 w' := fun w1 h1 => take_mv (k := j1) 116 116 rfl false j1 hlen (by omega) (by rw [hT]; exact .inr ⟨by rw [hc]; decide, rfl, rfl⟩) w1 h1
  have t3 : ∀ w1, Sb B T (j1 : Nat) l st w1 → Calls Tryd.prog 56 #[.pointer (some ⟨B, 0, none⟩), .int .u8 34] w1 fun e w' => e = .returned (.bool false) ∧ Mv B T (j1 : Nat) l st w1 w' := fun w1 h1 => take_mv (k := j1) 34 34 rfl false j1 hlen (by omega) (by rw [hT]; exact .inr ⟨by rw [hc]; decide, rfl, rfl⟩) w1 h1
  have t4 : ∀ w1, Sb B T (j1 : Nat) l st w1 → Calls Tryd.prog 56 #[.pointer (some ⟨B, 0, none⟩), .int .u8 92] w1 fun e w' => e = .returned (.bool false) ∧ Mv B T (j1 : Nat) l st w1 w' := fun w1 h1 => take_mv (k := j1) 92 92 rfl false j1 hlen (by omega) (by rw [hT]; exact .inr ⟨by rw [hc]; decide, rfl, rfl⟩) w1 h1
  have t5 : ∀ w1, Sb B T (j1 : Nat) l st w1 → Calls Tryd.prog 56 #[.pointer (some ⟨B, 0, none⟩), .int .u8 120] w1 fun e w' => e = .returned (.bool true) ∧ Mv B T (j2 : Nat) l st w1 w' := fun w1 h1 => take_mv (k := j1) 120 120 rfl true j2 hlen (by omega) (by rw [hT]; exact .inl ⟨hc, rfl, hj2⟩) w1 h1
  have hb := fun w1 (h1 : Sb B T (j2 : Nat) l st w1) => hexbyte_b L hT hlen (by omega) x hx2 hxd j3 hj3 hno w1 h1
  clear hT hlen hx hc hs hj hj1 hj2 hx2 hxd hno hj3
  go_enter Tryd.func81, Tryd.ntmps81
  go_wp2_with fail
  refine (t0 _ h).mono ?_
  rintro en w1 ⟨rfl, m1⟩
  have n1 := m1
  clear m1 t0
  go_wp2_with fail
  refine (t1 _ n1.2).mono ?_
  rintro en w2 ⟨rfl, m2⟩
  have n2 := n1.trans m2
  clear n1
  clear m2 t1
  go_wp2_with fail
  refine (t2 _ n2.2).mono ?_
  rintro en w3 ⟨rfl, m3⟩
  have n3 := n2.trans m3
  clear n2
  clear m3 t2
  go_wp2_with fail
  refine (t3 _ n3.2).mono ?_
  rintro en w4 ⟨rfl, m4⟩
  have n4 := n3.trans m4
  clear n3
  clear m4 t3
  go_wp2_with fail
  refine (t4 _ n4.2).mono ?_
  rintro en w5 ⟨rfl, m5⟩
  have n5 := n4.trans m5
  clear n4
  clear m5 t4
  go_wp2_with fail
  refine (t5 _ n5.2).mono ?_
  rintro en w6 ⟨rfl, m6⟩
  have n6 := n5.trans m6
  clear n5
  clear m6 t5
  have hb1 := hb _ n6.2
  have HZ : Hid (Mv B T (j2 : Nat) l st w w6) := n6
  clear n6 h hb
  go_wp2_with fail
  refine hb1.mono ?_
  rintro en w9 ⟨rfl, m9⟩
  have HY : Hid (Mv B T ((j3 : Nat) : Int) l st w w9) := (show Mv B T (j2 : Nat) l st w w6 from HZ).trans m9
  clear hb1 m9 HZ
  go_wp2_with fail
  go_ret2
  exact ⟨rfl, HY⟩
set_option maxRecDepth 100000 in
set_option maxHeartbeats 2000000 in
theorem el_xc {B : Nat} {T : ByteArray} (L : List UInt8) (hT : T.data.toList = L) {j : Nat} {l : Int} {st : Bool} (hlen : T.size ≤ 65536) (j1 j2 : Nat) (hj1 : j1 = j + 1) (hj2 : j2 = j1 + 1) (hx : L[j]? = some 92) (hc : L[j1]? = some 120) (x y : UInt8) (hx2 : L[j2]? = some x) (hxd : Rd.dw x < 16) (j3 : Nat) (hj3 : j3 = j2 + 1) (hy : L[j3]? = some y) (hyd : Rd.dw y < 16) (w : World) (h : Sb B T j l st w) :
    Calls Tryd.prog 81 #[.pointer (some ⟨B, 0, none⟩)] w fun e w' => e = .returned (.tuple #[.int .u8 ((Rd.dw x : Int) * 16 + (Rd.dw y : Int)), .bool true]) ∧ Mv B T (((j3 + 1) : Nat) : Int) l st w w' := by
  have hs : T.size = L.length := by rw [← hT]; simp
  have hj : j1 < L.length := (List.getElem?_eq_some_iff.1 hc).1
  have t0 : ∀ w1, Sb B T (j : Nat) l st w1 → Calls Tryd.prog 56 #[.pointer (some ⟨B, 0, none⟩), .int .u8 92] w1 fun e w' => e = .returned (.bool true) ∧ Mv B T (j1 : Nat) l st w1 w' := fun w1 h1 => take_mv (k := j) 92 92 rfl true j1 hlen (by omega) (by rw [hT]; exact .inl ⟨hx, rfl, hj1⟩) w1 h1
  have t1 : ∀ w1, Sb B T (j1 : Nat) l st w1 → Calls Tryd.prog 56 #[.pointer (some ⟨B, 0, none⟩), .int .u8 110] w1 fun e w' => e = .returned (.bool false) ∧ Mv B T (j1 : Nat) l st w1 w' := fun w1 h1 => take_mv (k := j1) 110 110 rfl false j1 hlen (by omega) (by rw [hT]; exact .inr ⟨by rw [hc]; decide, rfl, rfl⟩) w1 h1
  have t2 : ∀ w1, Sb B T (j1 : Nat) l st w1 → Calls Tryd.prog 56 #[.pointer (some ⟨B, 0, none⟩), .int .u8 116] w1 fun e w' => e = .returned (.bool false) ∧ Mv B T (j1 : Nat) l st w1 w' := fun w1 h1 => take_mv (k := j1) 116 116 rfl false j1 hlen (by omega) (by rw [hT]; exact .inr ⟨by rw [hc]; decide, rfl, rfl⟩) w1 h1
  have t3 : ∀ w1, Sb B T (j1 : Nat) l st w1 → Calls Tryd.prog 56 #[.pointer (some ⟨B, 0, none⟩), .int .u8 34] w1 fun e w' => e = .returned (.bool false) ∧ Mv B T (j1 : Nat) l st w1 w' := fun w1 h1 => take_mv (k := j1) 34 34 rfl false j1 hlen (by omega) (by rw [hT]; exact .inr ⟨by rw [hc]; decide, rfl, rfl⟩) w1 h1
  have t4 : ∀ w1, Sb B T (j1 : Nat) l st w1 → Calls Tryd.prog 56 #[.pointer (some ⟨B, 0, none⟩), .int .u8 92] w1 fun e w' => e = .returned (.bool false) ∧ Mv B T (j1 : Nat) l st w1 w' := fun w1 h1 => take_mv (k := j1) 92 92 rfl false j1 hlen (by omega) (by rw [hT]; exact .inr ⟨by rw [hc]; decide, rfl, rfl⟩) w1 h1
  have t5 : ∀ w1, Sb B T (j1 : Nat) l st w1 → Calls Tryd.prog 56 #[.pointer (some ⟨B, 0, none⟩), .int .u8 120] w1 fun e w' => e = .returned (.bool true) ∧ Mv B T (j2 : Nat) l st w1 w' := fun w1 h1 => take_mv (k := j1) 120 120 rfl true j2 hlen (by omega) (by rw [hT]; exact .inl ⟨hc, rfl, hj2⟩) w1 h1
  have hb := fun w1 (h1 : Sb B T (j2 : Nat) l st w1) => hexbyte_c L hT hlen (by omega) x y hx2 hxd j3 hj3 hy hyd w1 h1
  clear hT hlen hx hc hs hj hj1 hj2 hx2 hxd hy hyd hj3
  generalize (Rd.dw x : Int) * 16 + (Rd.dw y : Int) = val at *
  go_enter Tryd.func81, Tryd.ntmps81
  go_wp2_with fail
  refine (t0 _ h).mono ?_
  rintro en w1 ⟨rfl, m1⟩
  have n1 := m1
  clear m1 t0
  go_wp2_with fail
  refine (t1 _ n1.2).mono ?_
  rintro en w2 ⟨rfl, m2⟩
  have n2 := n1.trans m2
  clear n1
  clear m2 t1
  go_wp2_with fail
  refine (t2 _ n2.2).mono ?_
  rintro en w3 ⟨rfl, m3⟩
  have n3 := n2.trans m3
  clear n2
  clear m3 t2
  go_wp2_with fail
  refine (t3 _ n3.2).mono ?_
  rintro en w4 ⟨rfl, m4⟩
  have n4 := n3.trans m4
  clear n3
  clear m4 t3
  go_wp2_with fail
  refine (t4 _ n4.2).mono ?_
  rintro en w5 ⟨rfl, m5⟩
  have n5 := n4.trans m5
  clear n4
  clear m5 t4
  go_wp2_with fail
  refine (t5 _ n5.2).mono ?_
  rintro en w6 ⟨rfl, m6⟩
  have n6 := n5.trans m6
  clear n5
  clear m6 t5
  have hb1 := hb _ n6.2
  have HZ : Hid (Mv B T (j2 : Nat) l st w w6) := n6
  clear n6 h hb
  go_wp2_with fail
  refine hb1.mono ?_
  rintro en w9 ⟨rfl, m9⟩
  have HY : Hid (Mv B T (((j3 + 1) : Nat) : Int) l st w w9) := (show Mv B T (j2 : Nat) l st w w6 from HZ).trans m9
  clear hb1 m9 HZ
  go_wp2_with fail
  go_ret2
  exact ⟨rfl, HY⟩
set_option maxRecDepth 100000 in
set_option maxHeartbeats 2000000 in
theorem el_none {B : Nat} {T : ByteArray} (L : List UInt8) (hT : T.data.toList = L) {j : Nat} {l : Int} {st : Bool} (hlen : T.size ≤ 65536) (j1 : Nat) (hj1 : j1 = j + 1) (hx : L[j]? = some 92) (hc : L[j1]? ≠ some 110 ∧ L[j1]? ≠ some 116 ∧ L[j1]? ≠ some 34 ∧ L[j1]? ≠ some 92 ∧ L[j1]? ≠ some 120) (w : World) (h : Sb B T j l st w) :
    Calls Tryd.prog 81 #[.pointer (some ⟨B, 0, none⟩)] w fun e w' => e = .returned (.tuple #[.int .u8 0, .bool false]) ∧ Mv B T (j1 : Int) l st w w' := by
  have hs : T.size = L.length := by rw [← hT]; simp
  have hj : j < L.length := (List.getElem?_eq_some_iff.1 hx).1
  obtain ⟨c1, c2, c3, c4, c5⟩ := hc
  have t0 : ∀ w1, Sb B T (j : Nat) l st w1 → Calls Tryd.prog 56 #[.pointer (some ⟨B, 0, none⟩), .int .u8 92] w1 fun e w' => e = .returned (.bool true) ∧ Mv B T (j1 : Nat) l st w1 w' := fun w1 h1 => take_mv (k := j) 92 92 rfl true j1 hlen (by omega) (by rw [hT]; exact .inl ⟨hx, rfl, hj1⟩) w1 h1
  have t1 : ∀ w1, Sb B T (j1 : Nat) l st w1 → Calls Tryd.prog 56 #[.pointer (some ⟨B, 0, none⟩), .int .u8 110] w1 fun e w' => e = .returned (.bool false) ∧ Mv B T (j1 : Nat) l st w1 w' := fun w1 h1 => take_mv (k := j1) 110 110 rfl false j1 hlen (by omega) (by rw [hT]; exact .inr ⟨c1, rfl, rfl⟩) w1 h1
  have t2 : ∀ w1, Sb B T (j1 : Nat) l st w1 → Calls Tryd.prog 56 #[.pointer (some ⟨B, 0, none⟩), .int .u8 116] w1 fun e w' => e = .returned (.bool false) ∧ Mv B T (j1 : Nat) l st w1 w' := fun w1 h1 => take_mv (k := j1) 116 116 rfl false j1 hlen (by omega) (by rw [hT]; exact .inr ⟨c2, rfl, rfl⟩) w1 h1
  have t3 : ∀ w1, Sb B T (j1 : Nat) l st w1 → Calls Tryd.prog 56 #[.pointer (some ⟨B, 0, none⟩), .int .u8 34] w1 fun e w' => e = .returned (.bool false) ∧ Mv B T (j1 : Nat) l st w1 w' := fun w1 h1 => take_mv (k := j1) 34 34 rfl false j1 hlen (by omega) (by rw [hT]; exact .inr ⟨c3, rfl, rfl⟩) w1 h1
  have t4 : ∀ w1, Sb B T (j1 : Nat) l st w1 → Calls Tryd.prog 56 #[.pointer (some ⟨B, 0, none⟩), .int .u8 92] w1 fun e w' => e = .returned (.bool false) ∧ Mv B T (j1 : Nat) l st w1 w' := fun w1 h1 => take_mv (k := j1) 92 92 rfl false j1 hlen (by omega) (by rw [hT]; exact .inr ⟨c4, rfl, rfl⟩) w1 h1
  have t5 : ∀ w1, Sb B T (j1 : Nat) l st w1 → Calls Tryd.prog 56 #[.pointer (some ⟨B, 0, none⟩), .int .u8 120] w1 fun e w' => e = .returned (.bool false) ∧ Mv B T (j1 : Nat) l st w1 w' := fun w1 h1 => take_mv (k := j1) 120 120 rfl false j1 hlen (by omega) (by rw [hT]; exact .inr ⟨c5, rfl, rfl⟩) w1 h1
  clear hT hlen hx c1 c2 c3 c4 c5 hs hj hj1
  go_enter Tryd.func81, Tryd.ntmps81
  go_wp2_with fail
  refine (t0 _ h).mono ?_
  rintro en w1 ⟨rfl, m1⟩
  have n1 := m1
  clear m1 t0
  go_wp2_with fail
  refine (t1 _ n1.2).mono ?_
  rintro en w2 ⟨rfl, m2⟩
  have n2 := n1.trans m2
  clear n1
  clear m2 t1
  go_wp2_with fail
  refine (t2 _ n2.2).mono ?_
  rintro en w3 ⟨rfl, m3⟩
  have n3 := n2.trans m3
  clear n2
  clear m3 t2
  go_wp2_with fail
  refine (t3 _ n3.2).mono ?_
  rintro en w4 ⟨rfl, m4⟩
  have n4 := n3.trans m4
  clear n3
  clear m4 t3
  go_wp2_with fail
  refine (t4 _ n4.2).mono ?_
  rintro en w5 ⟨rfl, m5⟩
  have n5 := n4.trans m5
  clear n4
  clear m5 t4
  go_wp2_with fail
  refine (t5 _ n5.2).mono ?_
  rintro en w6 ⟨rfl, m6⟩
  have n6 := n5.trans m6
  clear n5
  clear m6 t5
  have HZ : Hid (Mv B T (j1 : Int) l st w w6) := n6
  clear n6 h
  go_wp2_with fail
  go_ret2
  exact ⟨rfl, HZ⟩
theorem impl_elt {B : Nat} {T : ByteArray} (L : List UInt8) (hT : T.data.toList = L) {j : Nat} {l : Int} {st : Bool} (hlen : T.size ≤ 65536) {ok : Bool} {v : Int} {e : Nat} (he : Elt L j ok v e) (w : World) (h : Sb B T j l st w) :
    Calls Tryd.prog 81 #[.pointer (some ⟨B, 0, none⟩)] w fun en w' => en = .returned (.tuple #[.int .u8 v, .bool ok]) ∧ Mv B T (e : Int) l st w w' := by
  cases he with
  | plain x hx h92 => exact el_plain L hT hlen x hx h92 w h
  | simple c v hx hc hv =>
    rcases hv with ⟨rfl, rfl⟩ | ⟨rfl, rfl⟩ | ⟨rfl, rfl⟩ | ⟨rfl, rfl⟩
    · exact el_n L hT hlen (j + 1) rfl hx hc w h
    · exact el_t L hT hlen (j + 1) rfl hx hc w h
    · exact el_q L hT hlen (j + 1) rfl hx hc w h
    · exact el_b L hT hlen (j + 1) rfl hx hc w h
  | hex x y hx hc h2 hxd hy hyd => exact el_xc L hT hlen (j + 1) (j + 2) rfl rfl hx hc x y h2 hxd (j + 3) rfl hy hyd w h
  | hexA hx hc hno => exact el_xa L hT hlen (j + 1) (j + 2) rfl rfl hx hc hno w h
  | hexB x hx hc h2 hxd hno => exact el_xb L hT hlen (j + 1) (j + 2) rfl rfl hx hc x h2 hxd (j + 3) rfl hno w h
  | none hx hc => exact el_none L hT hlen (j + 1) rfl hx hc w h
end Go.Proofs.YtogenhnonjkanaaDoor
