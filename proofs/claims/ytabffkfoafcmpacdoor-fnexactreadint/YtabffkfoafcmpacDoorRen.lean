import Derived.Test.YtabffkfoafcmpacDoorRem
namespace Go.Proofs.YtabffkfoafcmpacDoor
open Go.ChangeShapes Go.WideShapes Go.ChangeAt Go.RowKit
set_option linter.unusedVariables false
theorem first_bad (g : UInt8 → Prop) : ∀ R : List UInt8, (∀ c ∈ R, g c) ∨ ∃ (i : Nat) (x : UInt8), R[i]? = some x ∧ ¬ g x ∧ ∀ j : Nat, j < i → ∃ y, R[j]? = some y ∧ g y
  | [] => Or.inl (fun c hc => by cases hc)
  | c :: r => by
    by_cases hc : g c
    · rcases first_bad g r with h | ⟨i, x, h1, h2, h3⟩
      · left
        intro d hd
        rcases List.mem_cons.1 hd with rfl | hd
        · exact hc
        · exact h d hd
      · right
        refine ⟨i + 1, x, by simpa using h1, h2, fun j hj => ?_⟩
        cases j with
        | zero => exact ⟨c, rfl, hc⟩
        | succ j => simpa using h3 j (by omega)
    · right
      exact ⟨0, c, rfl, hc, fun j hj => by omega⟩
/-- the sign taken off -/
theorem head_of (T : ByteArray) : ∃ (neg : Bool) (R : ByteArray) (j : Nat), R.data.toList = T.data.toList.drop j ∧ j ≤ T.size ∧ Head T T.data.toList neg R (T.data.toList.drop j) ∧
    ((T.size = 0 ∧ j = 0) ∨ (T.data.toList[0]? = some 45 ∧ j = 1) ∨ (T.data.toList[0]? = some 43 ∧ j = 1) ∨ (∃ x, T.data.toList[0]? = some x ∧ x.toNat ≠ 45 ∧ x.toNat ≠ 43 ∧ j = 0)) := by
  have hsz : T.size = T.data.toList.length := by simp
  cases hL : T.data.toList with
  | nil =>
    have h0 : T.size = 0 := by rw [hsz, hL]; rfl
    exact ⟨false, T, 0, by simpa using hL, by omega, by simpa using Head.empty (T := T) rfl, Or.inl ⟨h0, rfl⟩⟩
  | cons c r =>
    have h1 : 1 ≤ T.size := by rw [hsz, hL]; simp
    by_cases h45 : c = 45
    · subst h45
      exact ⟨true, ⟨r.toArray⟩, 1, by simp, h1, by simpa using Head.minus (T := T) r ⟨r.toArray⟩ rfl (by simp), Or.inr (Or.inl ⟨rfl, rfl⟩)⟩
    · by_cases h43 : c = 43
      · subst h43
        exact ⟨false, ⟨r.toArray⟩, 1, by simp, h1, by simpa using Head.plus (T := T) r ⟨r.toArray⟩ rfl (by simp), Or.inr (Or.inr (Or.inl ⟨rfl, rfl⟩))⟩
      · have n45 : c.toNat ≠ 45 := fun h => h45 (by apply UInt8.toNat_inj.1; rw [h]; rfl)
        have n43 : c.toNat ≠ 43 := fun h => h43 (by apply UInt8.toNat_inj.1; rw [h]; rfl)
        exact ⟨false, T, 0, by simpa using hL, by omega, by simpa using Head.other (T := T) c r rfl n45 n43, Or.inr (Or.inr (Or.inr ⟨c, rfl, n45, n43, rfl⟩))⟩
theorem ext_empty (T : ByteArray) (j : Nat) : T.extract j j = ⟨#[]⟩ := by
  apply ByteArray.ext
  simp
theorem ext_some (T : ByteArray) (j k : Nat) (h : j < k) (hk : k ≤ T.size) : (T.extract j k).toList.isEmpty = false := by
  apply empT
  have : (T.extract j k).size = k - j := by
    rw [ByteArray.size_extract]; omega
  omega
theorem read_any (b : Nat) (hb : 2 ≤ b) (hb2 : b ≤ 36) (T : ByteArray) (hlen : T.size ≤ 1200)
    (hC : ∀ w, Calls Tryd.prog 45 #[.string T] w fun e w' => e = .returned (.string T) ∧ Below w.heap.size w w') (te : TypeId) (pe : Value) : ∃ p : Int × Int,
    (∀ w, Calls Tryd.prog 10 #[.string T, .int .i64 (b : Int)] w fun e w' => e = .returned (whole p) ∧ Grown w w') ∧
    (∀ w : World, w.cell? ⟨2, 0, none⟩ = some (.iface te pe) → Calls Tryd.prog 11 #[.string T, .int .i64 (b : Int)] w fun e w' => e = .returned (whole p) ∧ Kept w w') := by
  obtain ⟨neg, R, j, hR, hjs, hh, hj⟩ := head_of T
  have hsz : T.size = T.data.toList.length := by simp
  have hl : T.data.toList.length ≤ 1200 := by omega
  refine ⟨ansT b neg (T.data.toList.drop j), fun w => spec_read b hb hb2 T R _ _ neg rfl hl hR hh w, fun w hv => ?_⟩
  have H19 : ∀ {w0 : World} {A B : Nat} (w : World), Sc w0 A B T ((0 : Nat) : Int) w → Calls Tryd.prog 19 #[.pointer (some ⟨B, 0, none⟩)] w fun e w' => (∃ z, e = .returned (.bool z)) ∧ Sc w0 A B T (j : Int) w' :=
    fun w h => sign_run hlen j hj w h
  have hget : ∀ i, (T.data.toList.drop j)[i]? = T.data.toList[j + i]? := fun i => by rw [List.getElem?_drop]
  rcases first_bad (fun c => dv c < b) (T.data.toList.drop j) with hall | ⟨i, x, h1, h2, h3⟩
  · have H20 : ∀ {w0 : World} {A B : Nat} (w : World), Sc w0 A B T (j : Int) w → Calls Tryd.prog 20 #[.pointer (some ⟨B, 0, none⟩), .int .i64 (b : Int)] w fun e w' => e = .returned (.string (T.extract j T.size)) ∧ Sc w0 A B T (T.size : Int) w' := by
      intro w0 A B w h
      refine digits_run b hb2 hlen j T.size hjs (Nat.le_refl _) (fun m hm1 hm2 => ?_) (Or.inl rfl) w h
      have hm3 : m < T.data.toList.length := by omega
      refine ⟨T.data.toList[m], List.getElem?_eq_getElem hm3, ?_⟩
      rw [← dv_dw _ b hb2]
      apply hall
      apply List.mem_iff_getElem?.2
      refine ⟨m - j, ?_⟩
      rw [hget, show j + (m - j) = m by omega, List.getElem?_eq_getElem hm3]
    by_cases hne : j = T.size
    · rw [ans_nil b neg _ (by rw [List.length_drop]; omega)]
      refine impl_read_empty b hb hb2 T hlen j T.size _ H19 H20 ?_ w
      rw [← hne]
      exact ext_empty T j
    · have hpos : 0 < (T.data.toList.drop j).length := by rw [List.length_drop]; omega
      exact impl_read_good b hb hb2 T hlen j T.size _ H19 H20 (ext_some T j T.size (by omega) (Nat.le_refl _)) rfl _ (.iface te pe)
        (fun W hW => parse22 b T _ (fun w => int_any b hb hb2 T R _ _ neg rfl hl hR hh hall hpos w) hC te pe W hW) w hv
  · rw [hget] at h1
    have hlt : j + i < T.size := by have := (List.getElem?_eq_some_iff.1 h1).1; omega
    have hbad : ansT b neg (T.data.toList.drop j) = (2, 0) := ans_bad b neg _ x (List.mem_iff_getElem?.2 ⟨i, by rw [hget]; exact h1⟩) h2
    rw [hbad]
    have H20 : ∀ {w0 : World} {A B : Nat} (w : World), Sc w0 A B T (j : Int) w → Calls Tryd.prog 20 #[.pointer (some ⟨B, 0, none⟩), .int .i64 (b : Int)] w fun e w' => e = .returned (.string (T.extract j (j + i))) ∧ Sc w0 A B T ((j + i : Nat) : Int) w' := by
      intro w0 A B w h
      refine digits_run b hb2 hlen j (j + i) (by omega) (by omega) (fun m hm1 hm2 => ?_) (Or.inr ⟨x, h1, by rw [← dv_dw _ b hb2]; exact h2⟩) w h
      obtain ⟨y, hy1, hy2⟩ := h3 (m - j) (by omega)
      rw [hget, show j + (m - j) = m by omega] at hy1
      exact ⟨y, hy1, by rw [← dv_dw _ b hb2]; exact hy2⟩
    by_cases hi : i = 0
    · subst hi
      exact impl_read_empty b hb hb2 T hlen j (j + 0) _ H19 H20 (ext_empty T j) w
    · exact impl_read_bad b hb hb2 T hlen j (j + i) _ H19 H20 (ext_some T j (j + i) (by omega) (by omega)) (by omega) w
theorem eq_whole (p : Int × Int) (w : World) : Calls Tryd.prog 12 #[whole p, whole p] w fun e w' => e = .returned (.bool true) ∧ Grown w w' := by
  obtain ⟨a, b⟩ := p
  show Calls Tryd.prog 12 #[.agg #[.int .i64 a, .int .i64 b], .agg #[.int .i64 a, .int .i64 b]] w fun e w' => e = .returned (.bool true) ∧ Grown w w'
  go_enter Tryd.func12, Tryd.ntmps12
  go_wp2
  go_ret
  exact ⟨rfl, by go_grown⟩
theorem law_big (T : ByteArray) (b : Int) (h : 1048576 < (T.size : Int)) (w : World) : Calls Tryd.prog 5 #[.string T, .int .i64 b] w fun e w' => e = .returned (.bool true) ∧ Kept w w' := by
  go_enter Tryd.func5, Tryd.ntmps5
  go_wp2_with fail
  go_ret
  exact ⟨rfl, Kept.refl _⟩
theorem law_at (T : ByteArray) (b : Int) (h : (T.size : Int) ≤ 1048576) (x y : Int) (w : World)
    (h10 : ∀ w, Calls Tryd.prog 10 #[.string T, .int .i64 b] w fun e w' => e = .returned (whole (x, y)) ∧ Grown w w')
    (h11 : ∀ w' : World, Kept w w' → Calls Tryd.prog 11 #[.string T, .int .i64 b] w' fun e w'' => e = .returned (whole (x, y)) ∧ Kept w' w'') :
    Calls Tryd.prog 5 #[.string T, .int .i64 b] w fun e w' => e = .returned (.bool true) ∧ Kept w w' := by
  have h10' : ∀ w, Calls Tryd.prog 10 #[.string T, .int .i64 b] w fun e w' => e = .returned (.agg #[.int .i64 x, .int .i64 y]) ∧ Grown w w' := h10
  have h11' : ∀ w' : World, Kept w w' → Calls Tryd.prog 11 #[.string T, .int .i64 b] w' fun e w'' => e = .returned (.agg #[.int .i64 x, .int .i64 y]) ∧ Kept w' w'' := h11
  have h12 : ∀ w, Calls Tryd.prog 12 #[.agg #[.int .i64 x, .int .i64 y], .agg #[.int .i64 x, .int .i64 y]] w fun e w' => e = .returned (.bool true) ∧ Grown w w' := fun w => eq_whole (x, y) w
  clear h10 h11
  go_enter Tryd.func5, Tryd.ntmps5
  go_wp2_with fail
  refine (h10' _).mono ?_
  rintro e w1 ⟨rfl, g1⟩
  go_wp2_with fail
  have hk1 : Kept w (w1.alloc (Obj.cells #[Value.int IntKind.i64 x, Value.int IntKind.i64 y] 25)) := (Grown.alloc g1 _ _).1
  refine (h11' _ hk1).mono ?_
  rintro e w2 ⟨rfl, g2⟩
  have hz : w1.heap.size < w2.heap.size := by have := World.keptBut.size g2; simp at this; omega
  have hk : ∀ j, w2.cell? ⟨w1.heap.size, j, none⟩ = (w1.alloc (Obj.cells #[Value.int IntKind.i64 x, Value.int IntKind.i64 y] 25)).cell? ⟨w1.heap.size, j, none⟩ :=
    fun j => World.keptBut.cell g2 (by simp) (fun f => f)
  have k0 : w2.cell? ⟨w1.heap.size, 0, none⟩ = some (.int .i64 x) := by rw [hk]; simp
  have k1 : w2.cell? ⟨w1.heap.size, 1, none⟩ = some (.int .i64 y) := by rw [hk]; simp
  have hkk : Kept w w2 := hk1.trans g2
  clear hk h10' h11' g2 g1 hk1
  go_wp2_with fail
  refine (h12 _).mono ?_
  rintro e w3 ⟨rfl, g3⟩
  clear h12
  go_wp2_with fail
  go_ret
  exact ⟨rfl, (hkk.trans (World.keptBut_alloc _ _ _)).trans g3.1⟩
theorem law_read (T : ByteArray) (b : Int) (hC : T.size ≤ 1200 → ∀ w, Calls Tryd.prog 45 #[.string T] w fun e w' => e = .returned (.string T) ∧ Below w.heap.size w w') (te : TypeId) (pe : Value) (w : World) (hv : w.cell? ⟨2, 0, none⟩ = some (.iface te pe)) :
    Calls Tryd.prog 5 #[.string T, .int .i64 b] w fun e w' => e = .returned (.bool true) ∧ Kept w w' := by
  by_cases hbig : 1048576 < (T.size : Int)
  · exact law_big T b hbig w
  · by_cases hn : b < 2 ∨ 36 < b ∨ 1200 < (T.size : Int)
    · exact law_at T b (by omega) 1 0 w (spec_read_none b T hn) (fun w' _ => impl_read_none b T hn w')
    · obtain ⟨B, rfl⟩ : ∃ B : Nat, b = (B : Int) := ⟨b.toNat, by omega⟩
      obtain ⟨⟨x, y⟩, h10, h11⟩ := read_any B (by omega) (by omega) T (by omega) (hC (by omega)) te pe
      exact law_at T B (by omega) x y w h10 (fun w' hk => h11 w' (by rw [World.keptBut.cell hk (lt_of_cell hv) (fun f => f)]; exact hv))
end Go.Proofs.YtabffkfoafcmpacDoor
