import Derived.Test.YtogenhnonjkanaaDoorSdd
namespace Go.Proofs.YtogenhnonjkanaaDoor
open Go.ChangeShapes Go.WideShapes Go.ChangeAt Go.RowKit
set_option linter.unusedVariables false
theorem Ts.size {w W : World} {k f t n : Int} {x : ByteArray} (h : Ts w k f t n x W) : w.heap.size + 1 < W.heap.size := by
  have := h.rz
  unfold Rz at this
  exact (Array.getElem?_eq_some_iff.1 this).1
theorem Ts.below {w W W' : World} {k f t n : Int} {x : ByteArray} (h : Ts w k f t n x W) (hb : Below W.heap.size W W') : Ts w k f t n x W' := by
  have hs := h.size
  refine ⟨h.bel.trans (hb.mono (by omega)), ?_, ?_⟩
  · rw [hb.block _ (by omega)]; exact h.tb
  · unfold Rz; rw [hb.block _ hs]; exact h.rz
set_option maxRecDepth 100000 in
set_option maxHeartbeats 4000000 in
theorem spec_numx (T : ByteArray) (L : List UInt8) (hT : T.data.toList = L) (hlen : L.length ≤ 65536) (p : Nat) (hx0 : lk L p = 48 ∧ lk L (p + 1) = 120) {ok : Bool} {tn : Nat} {n : Int} (hn : Hx L p ok tn n) (kd : Int) (hkd : kd = if ok = true then 2 else 0) (w : World) :
    Calls Tryd.prog 34 #[.string T, tokV 0 p 0 0 0 ⟨#[]⟩] w (NumP w kd p tn n ⟨#[]⟩) := by
  have hs : T.size = L.length := by rw [← hT]; simp
  have hp1 : p + 1 < L.length := lk_lt (by decide) hx0.2
  obtain ⟨M, hM, hLM⟩ : ∃ M : Int, M ≤ 65536 ∧ (L.length : Int) ≤ M := ⟨L.length, by omega, Int.le_refl _⟩
  have hpM : (p : Int) + 1 < M := by omega
  have hix0 := ix T L hT p _ (lk_at (by omega))
  rw [hx0.1] at hix0
  have hl1 : ∀ W, Calls Tryd.prog 30 #[.string T, .int .i64 ((p : Int) + 1)] W fun e w' => e = .returned (.int .u8 ((lk L (p + 1)).toNat : Int)) ∧ w' = W := fun W => by
    have := spec_look T L hT (p + 1) W
    rw [show ((p + 1 : Nat) : Int) = (p : Int) + 1 by omega] at this
    exact this
  rw [hx0.2] at hl1
  have hst := Ts.start w 2 p 0 0 ⟨#[]⟩
  obtain ⟨W, hWe, hts⟩ : ∃ W, W = (w.alloc (.cells #[.int .i64 2, .int .i64 p, .int .i64 0, .int .i64 0, .int .i64 0, .string ⟨#[]⟩] 33)).alloc (.cells #[.int .i64 0, .int .i64 0, .int .i64 0, .int .i64 0, .int .i64 0, .string ⟨#[]⟩] 33) ∧ Ts w 2 p 0 0 ⟨#[]⟩ W := ⟨_, rfl, hst⟩
  have HTS : Hid (Ts w 2 p 0 0 ⟨#[]⟩ W) := hts
  have hhx := spec_hexed T L hT hlen p (by omega) hn kd hkd W
  unfold tokV at hhx
  have c1 := hts.c1
  clear hT hlen hn hkd hst hts hx0
  show Calls Tryd.prog 34 #[.string T, .agg #[.int .i64 0, .int .i64 p, .int .i64 0, .int .i64 0, .int .i64 0, .string ⟨#[]⟩]] w _
  go_enter Tryd.func34, Tryd.ntmps34
  go_upto_region 3 with fail
  rw [← hWe]
  clear hWe
  go_wp2_with fail
  refine (hl1 _).mono ?_
  rintro e w1 ⟨rfl, hw1⟩
  rw [hw1]
  clear hw1 hl1 hix0
  go_upto_region 4 with fail
  rename_i Kr hKr
  have HKR : Hid (∀ (a : Act) (w1 : World), bodyPost Tryd.prog Tryd.f34 (NumP w kd p tn n ⟨#[]⟩) Exit.ret a w1 → Kr a w1) := (fun a w1 h => hKr a w1 (wp_ret h) : ∀ (a : Act) (w1 : World), bodyPost Tryd.prog Tryd.f34 (NumP w kd p tn n ⟨#[]⟩) Exit.ret a w1 → Kr a w1)
  go_light
  have hc0 := HTS.c0
  have hc2 := HTS.c2
  have hc3 := HTS.c3
  have hc4 := HTS.c4
  have hc5 := HTS.c5
  go_wp2_with fail
  refine hhx.mono ?_
  rintro e w2 ⟨hb2, hy, hz⟩
  have hT2 := (show Ts w 2 p 0 0 ⟨#[]⟩ W from HTS).below hb2
  have z3 := hT2.rz
  have g0 := z3.c0
  have g1 := z3.c1
  have g2 := z3.c2
  have g3 := z3.c3
  have g4 := z3.c4
  have g5 := z3.c5
  have v0 := z3.f0
  have v1 := z3.f1
  have v2 := z3.f2
  have v3 := z3.f3
  have v4 := z3.f4
  have v5 := z3.f5
  have e0 := st6_c0 z3
  have e1 := st6_c1 z3
  have e2 := st6_c2 z3
  have e3 := st6_c3 z3
  have e4 := st6_c4 z3
  have e5 := st6_c5 z3
  have HBL : Hid (Below w.heap.size w w2) := hT2.bel
  clear hhx hT2 z3 hc0 hc2 hc3 hc4 hc5 c1 HTS hb2
  by_cases hk0 : kd = 0
  · obtain ⟨a, b, c, d, m, t, he⟩ := hz hk0
    subst he
    have HK0 : Hid (kd = 0) := hk0
    clear hy hz hk0
    unfold tokV
    go_wp2_with fail
    refine (show ∀ (a : Act) (w1 : World), bodyPost Tryd.prog Tryd.f34 (NumP w kd p tn n ⟨#[]⟩) Exit.ret a w1 → Kr a w1 from HKR) _ _ (bodyPost_ret (by simp [results, Tryd.results34, go_sem, e0, e1, e2, e3, e4, e5]; rfl) rfl ?_)
    refine ⟨st6_bel HBL (Nat.le_succ _) _ _ _ _ _ _, fun g => (g HK0).elim, fun _ => ⟨_, _, _, _, _, _, rfl⟩⟩
  · have he := hy hk0
    subst he
    have HK0 : Hid (kd ≠ 0) := hk0
    clear hy hz hk0
    unfold tokV
    go_wp2_with fail
    refine (show ∀ (a : Act) (w1 : World), bodyPost Tryd.prog Tryd.f34 (NumP w kd p tn n ⟨#[]⟩) Exit.ret a w1 → Kr a w1 from HKR) _ _ (bodyPost_ret (by simp [results, Tryd.results34, go_sem, e0, e1, e2, e3, e4, e5]; rfl) rfl ?_)
    refine ⟨st6_bel HBL (Nat.le_succ _) _ _ _ _ _ _, fun _ => rfl, fun g => (HK0 g).elim⟩
end Go.Proofs.YtogenhnonjkanaaDoor
