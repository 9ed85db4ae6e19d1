import Derived.Test.YtogenhnonjkanaaDoorMSbe
import Derived.Test.YtogenhnonjkanaaDoorMSda
import Derived.Test.YtogenhnonjkanaaDoorMRaa
namespace Go.Proofs.YtogenhnonjkanaaDoor
open Go.ChangeShapes Go.WideShapes Go.ChangeAt Go.RowKit
set_option linter.unusedVariables false
theorem sign_mv {B : Nat} {T : ByteArray} (L : List UInt8) (hT : T.data.toList = L) {k : Nat} {l : Int} {st : Bool} (hlen : T.size ≤ 65536) (hk : k ≤ L.length) (w : World) (h : Sb B T k l st w) :
    Calls Tryd.prog 79 #[.pointer (some ⟨B, 0, none⟩)] w fun e w' => (∃ z, e = .returned (.bool z)) ∧ Mv B T (sgn L k : Nat) l st w w' := by
  have hs : T.size = L.length := by rw [← hT]; simp
  by_cases h1 : L[k]? = some 45
  · have e : sgn L k = k + 1 := by unfold sgn; rw [if_pos (.inl (lk_some h1))]
    rw [e]
    have ht := take_mv 45 45 rfl true (k + 1) hlen (by omega) (by rw [hT]; exact .inl ⟨h1, rfl, rfl⟩) w h
    clear h e
    go_enter Tryd.func79, Tryd.ntmps79
    go_wp2_with fail
    refine ht.mono ?_
    rintro e w1 ⟨rfl, m1⟩
    clear ht
    go_wp2_with fail
    go_ret
    exact ⟨⟨_, rfl⟩, m1⟩
  · have ht := take_mv 45 45 rfl false k hlen (by omega) (by rw [hT]; exact .inr ⟨h1, rfl, rfl⟩) w h
    by_cases h2 : L[k]? = some 43
    · have e : sgn L k = k + 1 := by unfold sgn; rw [if_pos (.inr (lk_some h2))]
      rw [e]
      have ht2 := fun w1 (m1 : Mv B T (k : Int) l st w w1) => take_mv (k := k) 43 43 rfl true (k + 1) hlen (by omega) (by rw [hT]; exact .inl ⟨h2, rfl, rfl⟩) w1 m1.2
      clear h e
      go_enter Tryd.func79, Tryd.ntmps79
      go_wp2_with fail
      refine ht.mono ?_
      rintro e w1 ⟨rfl, m1⟩
      have hu := ht2 w1 m1
      clear ht ht2
      go_wp2_with fail
      refine hu.mono ?_
      rintro e w2 ⟨rfl, m2⟩
      clear hu
      go_wp2_with fail
      go_ret
      exact ⟨⟨_, rfl⟩, m1.trans m2⟩
    · have e : sgn L k = k := by
        unfold sgn
        rw [if_neg]
        rintro (g | g)
        · exact h1 ((lk_iff (by decide)).1 g)
        · exact h2 ((lk_iff (by decide)).1 g)
      rw [e]
      have ht2 := fun w1 (m1 : Mv B T (k : Int) l st w w1) => take_mv (k := k) 43 43 rfl false k hlen (by omega) (by rw [hT]; exact .inr ⟨h2, rfl, rfl⟩) w1 m1.2
      clear h e
      go_enter Tryd.func79, Tryd.ntmps79
      go_wp2_with fail
      refine ht.mono ?_
      rintro e w1 ⟨rfl, m1⟩
      have hu := ht2 w1 m1
      clear ht ht2
      go_wp2_with fail
      refine hu.mono ?_
      rintro e w2 ⟨rfl, m2⟩
      clear hu
      go_wp2_with fail
      go_ret
      exact ⟨⟨_, rfl⟩, m1.trans m2⟩
theorem sees_in {B : Nat} {T : ByteArray} {k : Nat} {l : Int} {st : Bool} (p : ByteArray) (z : Bool) (hk : k ≤ T.size) (hz : pre T.data.toList k p.data.toList = z) (w : World) (h : Sb B T k l st w) (n : Nat) :
    Calls Tryd.prog 62 #[.pointer (some ⟨B, 0, none⟩), .string p] (w.drewN n) fun e w' => e = .returned (.bool z) ∧ ∃ m, w' = w.drewN m := Calls.quiet_of (sees_run p z hk hz (w.drewN n) h)
set_option maxRecDepth 100000 in
set_option maxHeartbeats 2000000 in
theorem frac_mv {B : Nat} {T : ByteArray} (L : List UInt8) (hT : T.data.toList = L) {k : Nat} {l : Int} {st : Bool} (hlen : T.size ≤ 65536) (hk : k ≤ L.length) (z : Bool) (hz : frc L k = z) (w : World) (h : Sb B T k l st w) :
    Calls Tryd.prog 78 #[.pointer (some ⟨B, 0, none⟩)] w fun e w' => e = .returned (.bool z) ∧ Mv B T (k : Int) l st w w' := by
  have hs : T.size = L.length := by rw [← hT]; simp
  obtain ⟨M, hM, hLM, hkM⟩ : ∃ M : Int, M ≤ 65536 ∧ (L.length : Int) ≤ M ∧ (k : Int) ≤ M := ⟨L.length, by omega, Int.le_refl _, by omega⟩
  have hw : IntKind.i64.wrap ((k : Int) + 1) = (k : Int) + 1 := by simp only [IntKind.wrap, IntKind.bits, IntKind.signed]; simp; omega
  have b0 := h.c0
  have b1 := h.c1
  have HS : Hid (∀ n, Mv B T (k : Int) l st w (w.drewN n)) := (fun n => ⟨(Kb.refl B w).drewN n, h⟩ : ∀ n, Mv B T (k : Int) l st w (w.drewN n))
  by_cases h1 : L[k]? = some 46
  · have hse := sees_in ⟨#[46]⟩ true (by omega) (by rw [hT]; exact (pre_one L k 46).2 h1) w h
    have hkl : k < L.length := (List.getElem?_eq_some_iff.1 h1).1
    by_cases h2 : k + 1 < L.length
    · have hx := lk_at h2
      have ez : isD (lk L (k + 1)) = z := by rw [← hz]; unfold frc; rw [lk_some h1]; simp
      have hd := impl_isD (lk L (k + 1))
      rw [ez] at hd
      have hix := ix T L hT (k + 1) _ hx
      rw [show ((k + 1 : Nat) : Int) = (k : Int) + 1 by omega] at hix
      have hlt : decide ((k : Int) + 1 < (L.length : Int)) = true := by simp; omega
      clear h ez hx hz h1 h2 hT
      generalize ((lk L (k + 1)).toNat : Int) = xi at *
      go_enter Tryd.func78, Tryd.ntmps78
      go_wp2_with fail
      go_quiet ((first | (go_at_call 62; exact hse _) | (go_at_call 65; exact Calls.quiet_of_same (hd _))))
      go_wp2_with fail
      go_ret
      exact ⟨rfl, (show ∀ n, _ from HS) _⟩
    · have ez : z = false := by rw [← hz]; unfold frc; rw [lk_none (k := k + 1) (by omega), isD_zero]; simp
      have hlt : decide ((k : Int) + 1 < (L.length : Int)) = false := by simp; omega
      subst ez
      clear h hz h1 h2 hT
      go_enter Tryd.func78, Tryd.ntmps78
      go_wp2_with fail
      go_quiet ((first | (go_at_call 62; exact hse _)))
      go_wp2_with fail
      go_ret
      exact ⟨rfl, (show ∀ n, _ from HS) _⟩
  · have hse := sees_in ⟨#[46]⟩ false (by omega) (by rw [hT, Bool.eq_false_iff]; intro g; exact h1 ((pre_one L k 46).1 g)) w h
    have ez : z = false := by
      rw [← hz]; unfold frc
      have : (lk L k == 46) = false := by simp; intro g; exact h1 ((lk_iff (by decide)).1 g)
      rw [this]; rfl
    subst ez
    clear h hz h1 hT
    go_enter Tryd.func78, Tryd.ntmps78
    go_wp2_with fail
    go_quiet ((first | (go_at_call 62; exact hse _)))
    go_wp2_with fail
    go_ret
    exact ⟨rfl, (show ∀ n, _ from HS) _⟩
end Go.Proofs.YtogenhnonjkanaaDoor
namespace Go.Proofs.YtogenhnonjkanaaDoor
open Go.ChangeShapes Go.WideShapes Go.ChangeAt Go.RowKit
set_option linter.unusedVariables false
theorem syn_err (fn s : ByteArray) (hC : ∀ w, Calls Tryd.prog 89 #[.string s] w fun e w' => e = .returned (.string s) ∧ Below w.heap.size w w') (te : TypeId) (pe : Value) (w : World) (hv : w.cell? ⟨6, 0, none⟩ = some (.iface te pe)) :
    Calls Tryd.prog 101 #[.string fn, .string s] w fun e w' => (∃ a, e = .returned (.pointer (some a))) ∧ Below w.heap.size w w' := by
  have hG : 6 < w.heap.size := Rd.lt_of_cell hv
  have hvd : w.drew.cell? ⟨6, 0, none⟩ = some (.iface te pe) := hv
  go_enter Tryd.func101, Tryd.ntmps101
  go_wp2
  go_region_with (
      go_at_call 89
      refine (hC _).mono ?_
      rintro e w2 ⟨rfl, hbel⟩
      have hv2 : w2.cell? ⟨6, 0, none⟩ = some (.iface te pe) := (hbel.cell (show 6 < w.drew.heap.size from hG)).trans hvd)
  all_goals (
    go_wp2
    go_ret
    have hs2 : w.heap.size ≤ w2.heap.size := hbel.size
    exact ⟨⟨_, rfl⟩, ((Below.drew (Below.refl _ w)).trans hbel).alloc hs2 _⟩)
theorem eql22 (W : World) : (binOp .eql 71 (.iface 112 (.int .i64 2)) (.iface 112 (.int .i64 2))).run Tryd.prog W = .ok (.bool true) W :=
  Lib.run_eql_iface_int W 2 2 Tryd.underlying71 (by kernel_rfl) Tryd.underlying112
theorem to_err2 (fn s : ByteArray) (b c : Int) (hC : ∀ w, Calls Tryd.prog 89 #[.string s] w fun e w' => e = .returned (.string s) ∧ Below w.heap.size w w') (te : TypeId) (pe : Value) (w : World) (hv : w.cell? ⟨6, 0, none⟩ = some (.iface te pe)) :
    Calls Tryd.prog 97 #[.string fn, .string s, .int .i64 b, .int .i64 c, .iface 112 (.int .i64 2)] w fun e w' => (∃ t v, e = .returned (.iface t v)) ∧ Below w.heap.size w w' := by
  have h35 := syn_err fn s hC te pe w hv
  have hq22 := eql22
  clear hC hv
  go_enter Tryd.func97, Tryd.ntmps97
  go_wp2_with fail
  refine h35.mono ?_
  rintro e w2 ⟨⟨a, rfl⟩, hb⟩
  clear h35
  go_wp2_with fail
  go_ret
  exact ⟨⟨_, _, rfl⟩, hb⟩
set_option maxRecDepth 100000 in
set_option maxHeartbeats 2000000 in
theorem uint_none (w : World) : Calls Tryd.prog 96 #[.string ⟨#[]⟩, .int .i64 16, .int .i64 64] w fun e w' => e = .returned (.tuple #[.int .u64 0, .iface 112 (.int .i64 2)]) ∧ w' = w := by
  go_enter Tryd.func96, Tryd.ntmps96
  go_wp2_with fail
  go_ret2
  exact ⟨rfl, rfl⟩
theorem pu_none (te : TypeId) (pe : Value) (w : World) (hv : w.cell? ⟨6, 0, none⟩ = some (.iface te pe)) :
    Calls Tryd.prog 90 #[.string ⟨#[]⟩, .int .i64 16, .int .i64 64] w fun e w' => (∃ t v, e = .returned (.tuple #[.int .u64 0, .iface t v])) ∧ Below w.heap.size w w' := by
  have h27 := uint_none w
  have h28 := fun fn => to_err2 fn ⟨#[]⟩ 16 64 (fun w => lite_clone _ w (show (0 : Nat) ≤ _ from Nat.zero_le _)) te pe w hv
  clear hv
  go_enter Tryd.func90, Tryd.ntmps90
  go_wp2_with fail
  refine h27.mono ?_
  rintro e w2 ⟨rfl, rfl⟩
  clear h27
  go_wp2_with fail
  refine (h28 _).mono ?_
  rintro e w3 ⟨⟨t, v, rfl⟩, hb2⟩
  clear h28
  go_wp2_with fail
  go_ret2
  exact ⟨⟨_, _, rfl⟩, hb2⟩
theorem pu_some (S : ByteArray) (D : List UInt8) (hS : S.data.toList = D) (hlen : D.length ≤ 1200) (hd : ∀ c ∈ D, Rd.dv c < 16) (hne : 0 < D.length) (v : Nat) (hv : Rd.rd 16 0 D = some v) (w : World) :
    Calls Tryd.prog 90 #[.string S, .int .i64 16, .int .i64 64] w fun e w' => e = .returned (.tuple #[.int .u64 (v : Int), .nilIface]) ∧ Below w.heap.size w w' := by
  have h27 := Rd.uint_16 S D hS hlen hd hne w
  rw [hv] at h27
  unfold Rd.unt at h27
  have hb := Lib.bytesWorld_below w 5 S
  clear hv hd
  go_enter Tryd.func90, Tryd.ntmps90
  go_wp2_with fail
  refine h27.mono ?_
  rintro e w2 ⟨rfl, rfl⟩
  clear h27
  go_wp2_with fail
  go_ret2
  exact ⟨rfl, hb⟩
theorem rd_some16 : ∀ (D : List UInt8) (acc m : Nat), acc < 16 ^ m → m + D.length ≤ 16 → (∀ c ∈ D, Rd.dv c < 16) → ∃ v, Rd.rd 16 acc D = some v ∧ v < 16 ^ (m + D.length)
  | [], acc, m, h, _, _ => ⟨acc, rfl, by simpa using h⟩
  | c :: r, acc, m, h, hl, hd => by
    have hc := hd c (List.mem_cons_self ..)
    have h1 : acc * 16 + Rd.dv c < 16 ^ (m + 1) := by rw [Nat.pow_succ]; omega
    have h2 : 16 ^ (m + 1) ≤ 16 ^ 16 := Nat.pow_le_pow_right (by omega) (by simp at hl; omega)
    have h3 : (16 : Nat) ^ 16 = 18446744073709551616 := by decide
    obtain ⟨v, e, hv⟩ := rd_some16 r (acc * 16 + Rd.dv c) (m + 1) h1 (by simp at hl; omega) (fun x hx => hd x (List.mem_cons_of_mem _ hx))
    refine ⟨v, ?_, ?_⟩
    · rw [Rd.rd, if_pos (by omega)]; exact e
    · have : m + (c :: r).length = m + 1 + r.length := by simp; omega
      rw [this]; exact hv
/-- bytes of a run -/
theorem run_mem {p : UInt8 → Bool} {L : List UInt8} {k : Nat} {c : UInt8} (h : c ∈ (L.drop k).take (en p L k - k)) : p c = true := by
  obtain ⟨i, hi, e⟩ := List.getElem_of_mem h
  have hl := hi
  rw [List.length_take] at hl
  have hk : i < en p L k - k := by omega
  have := en_mid (p := p) (L := L) (en p L k - k) k (k + i) (by have := en_ge p L k; omega) (by omega) (by omega)
  obtain ⟨x, hx, hp⟩ := this
  have e2 : ((L.drop k).take (en p L k - k))[i]? = some x := by
    rw [List.getElem?_take, if_pos hk, List.getElem?_drop]; exact hx
  rw [List.getElem?_eq_getElem hi, e] at e2
  rw [Option.some.inj e2]; exact hp
/-- what stands behind 0x, and what it is worth -/
inductive Hx (L : List UInt8) (p : Nat) : Bool → Nat → Int → Prop
  | none : en (dgb 16) L (p + 2) = p + 2 → Hx L p false (p + 2) 0
  | many : p + 18 < en (dgb 16) L (p + 2) → Hx L p false (p + 18) 0
  | some (e v : Nat) : en (dgb 16) L (p + 2) = e → p + 2 < e → e ≤ p + 18 → Rd.rd 16 0 ((L.drop (p + 2)).take (e - (p + 2))) = some v → Hx L p true e (wrap64 (v : Int))
theorem hx_any (L : List UInt8) (p : Nat) (hp : p + 2 ≤ L.length) : ∃ ok to n, Hx L p ok to n := by
  have hg := en_ge (dgb 16) L (p + 2)
  by_cases h1 : en (dgb 16) L (p + 2) = p + 2
  · exact ⟨_, _, _, .none h1⟩
  · by_cases h2 : p + 18 < en (dgb 16) L (p + 2)
    · exact ⟨_, _, _, .many h2⟩
    · obtain ⟨v, hv, _⟩ := rd_some16 ((L.drop (p + 2)).take (en (dgb 16) L (p + 2) - (p + 2))) 0 0 (by decide) (by rw [List.length_take]; omega) (fun c hc => by
        have := run_mem hc
        rw [Rd.dv_dw _ _ (by decide)]
        unfold dgb at this
        simpa using this)
      exact ⟨_, _, _, .some _ v rfl (by omega) (by omega) hv⟩
set_option maxRecDepth 100000 in
set_option maxHeartbeats 2000000 in
theorem impl_hex {B : Nat} {T : ByteArray} (L : List UInt8) (hT : T.data.toList = L) {k : Nat} {l : Int} {st : Bool} (hlen : T.size ≤ 65536) (hk : k + 2 ≤ L.length) (hB : 8 ≤ B) {ok : Bool} {to : Nat} {n : Int} (hr : Hx L k ok to n) (kd : Int) (hkd : kd = if ok = true then 2 else 0) (w : World) (hg : Gd w) (h : Sb B T k l st w) :
    Calls Tryd.prog 76 #[.pointer (some ⟨B, 0, none⟩)] w fun e w' => e = .returned (tokV kd 0 0 0 n ⟨#[]⟩) ∧ Mv B T (to : Int) l st w w' := by
  have hs : T.size = L.length := by rw [← hT]; simp
  obtain ⟨M, hM, hLM⟩ : ∃ M : Int, M ≤ 65536 ∧ (L.length : Int) ≤ M := ⟨L.length, by omega, Int.le_refl _⟩
  have hkM : (k : Int) + 2 ≤ M := by omega
  have hBlt : B < w.heap.size := h.lt
  have hnB : w.heap.size ≠ B := by omega
  have hz := Mz.start h
  have hgz : Gd (w.alloc (.cells #[.int .i64 0, .int .i64 0, .int .i64 0, .int .i64 0, .int .i64 0, .string ⟨#[]⟩] 33)) := hg.kb hB hz.1.1
  have c1 := h.c1
  have f1 := h.fz 1
  have hz2 := Mz.start1 h ((k : Int) + 2)
  have d1 := hz2.1.2.c1
  obtain ⟨W, hWe, HS⟩ : ∃ W, W = (w.setCell ⟨B, 1, none⟩ (.int .i64 ((k : Int) + 2))).alloc (.cells #[.int .i64 0, .int .i64 0, .int .i64 0, .int .i64 0, .int .i64 0, .string ⟨#[]⟩] 33) ∧ Hid (Mz B w.heap.size T ((k + 2 : Nat) : Int) l st w W) := ⟨_, rfl, hz2⟩
  have hdg := impl_digits L hT (k := k + 2) 16 (by decide) hlen hk W HS.1.2
  obtain ⟨e, he⟩ : ∃ e, en (dgb 16) L (k + 2) = e := ⟨_, rfl⟩
  rw [he] at hdg
  have hel : e ≤ L.length := by rw [← he]; exact en_le _ _ _ hk
  have heg : k + 2 ≤ e := by rw [← he]; exact en_ge _ _ _
  obtain ⟨S, hSe⟩ : ∃ S, T.extract (k + 2) e = S := ⟨_, rfl⟩
  rw [hSe] at hdg
  have hSl : S.data.toList = (L.drop (k + 2)).take (e - (k + 2)) := by rw [← hSe, ext_list, hT]
  have hSz : S.size = e - (k + 2) := by
    have : S.data.toList.length = e - (k + 2) := by rw [hSl, List.length_take, List.length_drop]; omega
    simpa using this
  have HG : Hid (Gd w) := hg
  have HB9 : Hid (8 ≤ B) := hB
  cases hr with
  | none h1 =>
    have e0 : e = k + 2 := by omega
    have hS0 : S = ⟨#[]⟩ := by
      rw [e0, Nat.sub_self, List.take_zero] at hSl
      cases S with
      | mk a => rw [show a = #[] from Array.toList_eq_nil_iff.1 hSl]
    subst hS0
    rw [if_neg (by decide)] at hkd
    subst hkd
    subst e0
    clear hT hlen hg h hz hgz hz2 hSe hSl hSz he h1 hel heg hB
    go_enter Tryd.func76, Tryd.ntmps76
    go_wp2_with fail
    rw [← hWe]
    clear hWe c1 f1 d1
    refine hdg.mono ?_
    rintro en w1 ⟨rfl, m1⟩
    have hq1 := HS.trans m1 hnB
    have hgw : Gd w1 := (show Gd w from HG).kb HB9 hq1.1.1
    obtain ⟨te, pe, h8⟩ := hgw.err6
    have hpu := pu_none te pe w1 h8
    have HQ1 : Hid (Mz B w.heap.size T ((k + 2 : Nat) : Int) l st w w1) := hq1
    clear hdg HS m1 hq1 hgw h8
    go_wp2_with fail
    refine hpu.mono ?_
    rintro en w2 ⟨⟨t, v, rfl⟩, hb⟩
    have hq := (show Mz B w.heap.size T ((k + 2 : Nat) : Int) l st w w1 from HQ1).trans (Mv.below HQ1.1.2 hb (Nat.le_refl _)) hnB
    clear hpu HQ1 hb
    have z3 := hq.2
    have g0 := z3.c0
    have g1 := z3.c1
    have g2 := z3.c2
    have g3 := z3.c3
    have g4 := z3.c4
    have g5 := z3.c5
    have y0 := z3.f0
    have y1 := z3.f1
    have y2 := z3.f2
    have y3 := z3.f3
    have y4 := z3.f4
    have y5 := z3.f5
    have e0 := st6_c0 z3
    have e1 := st6_c1 z3
    have e2 := st6_c2 z3
    have e3 := st6_c3 z3
    have e4 := st6_c4 z3
    have e5 := st6_c5 z3
    have HM4 : Hid (Mv B T ((k + 2 : Nat) : Int) l st w w2) := hq.1
    clear hq z3
    go_wp2_with fail
    refine bodyPost_ret (by simp [results, Tryd.results76, go_sem, e0, e1, e2, e3, e4, e5]; rfl) rfl ?_
    exact ⟨rfl, st6_mv HM4 (Nat.le_refl _) hnB _ _ _ _ _ _⟩
  | many h1 =>
    have hI : (16 : Int) < (S.size : Int) := by omega
    have hk18 : (k : Int) + 18 ≤ M := by omega
    rw [if_neg (by decide)] at hkd
    subst hkd
    clear hT hlen hg h hz hgz hz2 hSe hSl hSz he h1 heg hB
    go_enter Tryd.func76, Tryd.ntmps76
    go_wp2_with fail
    rw [← hWe]
    clear hWe c1 f1 d1
    refine hdg.mono ?_
    rintro en w1 ⟨rfl, m1⟩
    have hq1 := HS.trans m1 hnB
    have c1 := hq1.1.2.c1
    have f1 := hq1.1.2.fz 1
    have hq := hq1.set1 hnB ((k : Int) + 2 + 16)
    clear hdg HS m1 hq1
    have z3 := hq.2
    have g0 := z3.c0
    have g1 := z3.c1
    have g2 := z3.c2
    have g3 := z3.c3
    have g4 := z3.c4
    have g5 := z3.c5
    have y0 := z3.f0
    have y1 := z3.f1
    have y2 := z3.f2
    have y3 := z3.f3
    have y4 := z3.f4
    have y5 := z3.f5
    have e0 := st6_c0 z3
    have e1 := st6_c1 z3
    have e2 := st6_c2 z3
    have e3 := st6_c3 z3
    have e4 := st6_c4 z3
    have e5 := st6_c5 z3
    have HM4 : Hid (Mv B T ((k + 18 : Nat) : Int) l st w (w1.setCell ⟨B, 1, none⟩ (.int .i64 ((k : Int) + 2 + 16)))) := by
      have := hq.1
      rw [show ((k + 18 : Nat) : Int) = (k : Int) + 2 + 16 by omega]
      exact this
    clear hq z3
    go_wp2_with fail
    refine bodyPost_ret (by simp [results, Tryd.results76, go_sem, e0, e1, e2, e3, e4, e5]; rfl) rfl ?_
    exact ⟨rfl, st6_mv HM4 (Nat.le_refl _) hnB _ _ _ _ _ _⟩
  | some e' v h1 h2 h3 hv =>
    obtain rfl : e = to := by omega
    have hI : ¬ (16 : Int) < (S.size : Int) := by omega
    rw [if_pos rfl] at hkd
    subst hkd
    have hpu := pu_some S _ hSl (by rw [List.length_take]; omega) (fun c hc => by
      rw [← h1] at hc
      have := run_mem hc
      rw [Rd.dv_dw _ _ (by decide)]
      unfold dgb at this
      simpa using this) (by rw [List.length_take, List.length_drop]; omega) v hv
    clear hT hlen hg h hz hgz hz2 hSe hSl hSz he h1 hel heg hB h2 h3 hv
    generalize (v : Int) = vi at *
    go_enter Tryd.func76, Tryd.ntmps76
    go_wp2_with fail
    rw [← hWe]
    clear hWe c1 f1 d1
    refine hdg.mono ?_
    rintro en w1 ⟨rfl, m1⟩
    have hq1 := HS.trans m1 hnB
    have HQ1 : Hid (Mz B w.heap.size T (e : Int) l st w w1) := hq1
    have hpu1 := hpu w1
    clear hdg HS m1 hq1 hpu
    go_wp2_with fail
    refine hpu1.mono ?_
    rintro en w2 ⟨rfl, hb⟩
    have hq := (show Mz B w.heap.size T (e : Int) l st w w1 from HQ1).trans (Mv.below HQ1.1.2 hb (Nat.le_refl _)) hnB
    clear hpu1 HQ1 hb
    have z3 := hq.2
    have g0 := z3.c0
    have g1 := z3.c1
    have g2 := z3.c2
    have g3 := z3.c3
    have g4 := z3.c4
    have g5 := z3.c5
    have y0 := z3.f0
    have y1 := z3.f1
    have y2 := z3.f2
    have y3 := z3.f3
    have y4 := z3.f4
    have y5 := z3.f5
    have e0 := st6_c0 z3
    have e1 := st6_c1 z3
    have e2 := st6_c2 z3
    have e3 := st6_c3 z3
    have e4 := st6_c4 z3
    have e5 := st6_c5 z3
    have HM4 : Hid (Mv B T (e : Int) l st w w2) := hq.1
    clear hq z3
    go_wp2_with fail
    refine bodyPost_ret (by simp [results, Tryd.results76, go_sem, e0, e1, e2, e3, e4, e5]; rfl) rfl ?_
    exact ⟨rfl, st6_mv HM4 (Nat.le_refl _) hnB _ _ _ _ _ _⟩
end Go.Proofs.YtogenhnonjkanaaDoor
