import Derived.Test.YtogenhnonjkanaaDoorSbk
import Derived.Test.YtogenhnonjkanaaDoorSdd
namespace Go.Proofs.YtogenhnonjkanaaDoor
open Go.ChangeShapes Go.WideShapes Go.ChangeAt Go.RowKit
set_option linter.unusedVariables false
set_option maxRecDepth 100000 in
set_option maxHeartbeats 4000000 in
theorem impl_numx {B : Nat} {T : ByteArray} (L : List UInt8) (hT : T.data.toList = L) {k : Nat} {l : Int} {st : Bool} (hlen : T.size ≤ 65536) (hB : 8 ≤ B) (hx0 : lk L k = 48 ∧ lk L (k + 1) = 120) {ok : Bool} {tn : Nat} {n : Int} (hr : Hx L k ok tn n) (kd : Int) (hkd : kd = if ok = true then 2 else 0) (w : World) (hg : Gd w) (h : Sb B T k l st w) :
    Calls Tryd.prog 66 #[.pointer (some ⟨B, 0, none⟩)] w (ImP B T kd tn n ⟨#[]⟩ l st w) := by
  have hs : T.size = L.length := by rw [← hT]; simp
  have hk1 : k + 1 < L.length := lk_lt (by decide) hx0.2
  have hBlt : B < w.heap.size := h.lt
  have hnB : w.heap.size ≠ B := by omega
  have hz := Mz.start h
  have hsee := sees_run (l := l) (st := st) (B := B) ⟨#[48, 120]⟩ true (show k ≤ T.size by omega) (by
    rw [hT]
    refine (pre_two L k 48 120).2 ⟨?_, ?_⟩
    · rw [← hx0.1]; exact lk_at (by omega)
    · rw [← hx0.2]; exact lk_at hk1) _ hz.1.2
  obtain ⟨W0, hW0, HZ0⟩ : ∃ W0, W0 = w.alloc (.cells #[.int .i64 0, .int .i64 0, .int .i64 0, .int .i64 0, .int .i64 0, .string ⟨#[]⟩] 33) ∧ Hid (Mz B w.heap.size T k l st w W0) := ⟨_, rfl, hz⟩
  rw [← hW0] at hsee
  have hgz : ∀ m, Gd (W0.drewN m) := fun m => hg.kb hB ((show Mz B w.heap.size T k l st w W0 from HZ0).drewN m).1.1
  have hhx : ∀ m, Calls Tryd.prog 76 #[.pointer (some ⟨B, 0, none⟩)] (W0.drewN m) fun e w' => e = .returned (tokV kd 0 0 0 n ⟨#[]⟩) ∧ Mv B T (tn : Int) l st (W0.drewN m) w' :=
    fun m => impl_hex L hT hlen (by omega) hB hr kd hkd (W0.drewN m) (hgz m) ((show Mz B w.heap.size T k l st w W0 from HZ0).drewN m).1.2
  clear hT hlen hB hx0 hr hkd hg h hz hgz
  go_enter Tryd.func66, Tryd.ntmps66
  go_wp2_with fail
  rw [← hW0]
  clear hW0
  refine hsee.mono ?_
  rintro e w1 ⟨rfl, m, hw1⟩
  rw [hw1]
  have hh := hhx m
  have HZ1 : Hid (Mz B w.heap.size T k l st w (W0.drewN m)) := (show Mz B w.heap.size T k l st w W0 from HZ0).drewN m
  clear hsee HZ0 hw1 hhx
  generalize W0.drewN m = W1 at *
  go_wp2_with fail
  refine hh.mono ?_
  rintro e w2 ⟨rfl, m2⟩
  have HZ2 := (show Mz B w.heap.size T k l st w W1 from HZ1).trans m2 hnB
  have z3 := HZ2.2
  have g0 := z3.c0
  have g1 := z3.c1
  have g2 := z3.c2
  have g3 := z3.c3
  have g4 := z3.c4
  have g5 := z3.c5
  have v0 := z3.f0
  have v1 := z3.f1
  have v2 := z3.f2
  have v3 := z3.f3
  have v4 := z3.f4
  have v5 := z3.f5
  have e0 := st6_c0 z3
  have e1 := st6_c1 z3
  have e2 := st6_c2 z3
  have e3 := st6_c3 z3
  have e4 := st6_c4 z3
  have e5 := st6_c5 z3
  have HM4 : Hid (Mv B T (tn : Int) l st w w2) := HZ2.1
  clear z3 HZ2 hh m2 HZ1
  unfold tokV
  go_wp2_with fail
  refine bodyPost_ret (by simp [results, Tryd.results66, go_sem, e0, e1, e2, e3, e4, e5]; rfl) rfl ?_
  exact ⟨rfl, st6_mv HM4 (Nat.le_refl _) hnB _ _ _ _ _ _⟩
end Go.Proofs.YtogenhnonjkanaaDoor
