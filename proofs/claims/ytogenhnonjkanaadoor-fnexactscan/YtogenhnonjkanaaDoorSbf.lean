import Derived.Test.YtogenhnonjkanaaDoorSbe
import Derived.Test.YtogenhnonjkanaaDoorScd
namespace Go.Proofs.YtogenhnonjkanaaDoor
open Go.ChangeShapes Go.WideShapes Go.ChangeAt Go.RowKit
set_option linter.unusedVariables false
/-- the contract of a part of the program's token: at p it answers t -/
def PartC (f : Nat) (B : Nat) (T : ByteArray) (p : Nat) (t : Tk) : Prop := ∀ (l : Int) (w : World), Gd w → Sb B T p l false w →
  Calls Tryd.prog f #[.pointer (some ⟨B, 0, none⟩)] w fun e w' => e = .returned (tokV t.kind 0 0 0 t.num t.text) ∧ Mv B T (t.to : Int) l false w w'
set_option maxRecDepth 100000 in
set_option maxHeartbeats 2000000 in
theorem alone_word {B : Nat} {T : ByteArray} (L : List UInt8) (hT : T.data.toList = L) (p : Nat) (x : UInt8) (hx : L[p]? = some x) (hlv : isL x = true) (hB : 8 ≤ B) (t : Tk) (hc : PartC 64 B T p t) : PartC 58 B T p t := by
  intro l w hg h
  have hix := ix T L hT p x hx
  have hBlt : B < w.heap.size := h.lt
  have hnB : w.heap.size ≠ B := by omega
  have hz := Mz.start h
  have hgz : Gd (w.alloc (.cells #[.int .i64 0, .int .i64 0, .int .i64 0, .int .i64 0, .int .i64 0, .string ⟨#[]⟩] 33)) := hg.kb hB hz.1.1
  have c0 := hz.1.2.c0
  have c1 := hz.1.2.c1
  obtain ⟨W, hWe, HS⟩ : ∃ W, W = (w.alloc (.cells #[.int .i64 0, .int .i64 0, .int .i64 0, .int .i64 0, .int .i64 0, .string ⟨#[]⟩] 33)) ∧ Hid (Mz B w.heap.size T p l false w W ∧ Gd W) := ⟨_, rfl, (⟨hz, hgz⟩ : _ ∧ _)⟩
  rw [← hWe] at c0 c1
  have hlet := impl_isL x
  rw [hlv] at hlet
  have HC : Hid (PartC 64 B T p t) := hc
  clear hT hx hlv hc hg h hz hgz
  generalize (x.toNat : Int) = xi at *
  go_enter Tryd.func58, Tryd.ntmps58
  go_wp2_with fail
  rw [← hWe]
  clear hWe
  go_quiet (fail)
  obtain ⟨W2, hWe2, HS2⟩ : ∃ W2, W2 = W.drewN nq ∧ Hid (Mz B w.heap.size T p l false w W2 ∧ Gd W2) := ⟨_, rfl, (⟨HS.1.drewN nq, ⟨HS.2.words, HS.2.marks, HS.2.infx, HS.2.err7, HS.2.err6, HS.2.size⟩⟩ : _ ∧ _)⟩
  rw [← hWe2]
  clear hWe2 HS c0 c1 hix
  have hcall := (show PartC 64 B T p t from HC) l W2 HS2.2 HS2.1.1.2
  clear HC
  unfold tokV at hcall
  go_wp2_with fail
  refine (hlet _).mono ?_
  rintro en w2 ⟨rfl, rfl⟩
  clear hlet
  go_wp2_with fail
  refine hcall.mono ?_
  rintro en W3 ⟨rfl, m3⟩
  have hq := HS2.1.trans m3 hnB
  clear hcall HS2 m3
  have z3 := hq.2
  have g0 := z3.c0
  have g1 := z3.c1
  have g2 := z3.c2
  have g3 := z3.c3
  have g4 := z3.c4
  have g5 := z3.c5
  have y0 := z3.f0
  have y1 := z3.f1
  have y2 := z3.f2
  have y3 := z3.f3
  have y4 := z3.f4
  have y5 := z3.f5
  have e0 := st6_c0 z3
  have e1 := st6_c1 z3
  have e2 := st6_c2 z3
  have e3 := st6_c3 z3
  have e4 := st6_c4 z3
  have e5 := st6_c5 z3
  have HM4 : Hid (Mv B T (t.to : Int) l false w W3) := hq.1
  clear hq z3
  go_wp2_with fail
  refine bodyPost_ret (by simp [results, Tryd.results58, go_sem, e0, e1, e2, e3, e4, e5]; rfl) rfl ?_
  exact ⟨rfl, st6_mv HM4 (Nat.le_refl _) hnB _ _ _ _ _ _⟩
set_option maxRecDepth 100000 in
set_option maxHeartbeats 2000000 in
theorem alone_num {B : Nat} {T : ByteArray} (L : List UInt8) (hT : T.data.toList = L) (p : Nat) (x : UInt8) (hx : L[p]? = some x) (hlv : isL x = false) (hdv : isD x = true) (hB : 8 ≤ B) (t : Tk) (hc : PartC 66 B T p t) : PartC 58 B T p t := by
  intro l w hg h
  have hix := ix T L hT p x hx
  have hBlt : B < w.heap.size := h.lt
  have hnB : w.heap.size ≠ B := by omega
  have hz := Mz.start h
  have hgz : Gd (w.alloc (.cells #[.int .i64 0, .int .i64 0, .int .i64 0, .int .i64 0, .int .i64 0, .string ⟨#[]⟩] 33)) := hg.kb hB hz.1.1
  have c0 := hz.1.2.c0
  have c1 := hz.1.2.c1
  obtain ⟨W, hWe, HS⟩ : ∃ W, W = (w.alloc (.cells #[.int .i64 0, .int .i64 0, .int .i64 0, .int .i64 0, .int .i64 0, .string ⟨#[]⟩] 33)) ∧ Hid (Mz B w.heap.size T p l false w W ∧ Gd W) := ⟨_, rfl, (⟨hz, hgz⟩ : _ ∧ _)⟩
  rw [← hWe] at c0 c1
  have hlet := impl_isL x
  rw [hlv] at hlet
  have hdig := impl_isD x
  rw [hdv] at hdig
  have HC : Hid (PartC 66 B T p t) := hc
  clear hT hx hlv hdv hc hg h hz hgz
  generalize (x.toNat : Int) = xi at *
  go_enter Tryd.func58, Tryd.ntmps58
  go_wp2_with fail
  rw [← hWe]
  clear hWe
  go_quiet (fail)
  obtain ⟨W2, hWe2, HS2⟩ : ∃ W2, W2 = W.drewN nq ∧ Hid (Mz B w.heap.size T p l false w W2 ∧ Gd W2) := ⟨_, rfl, (⟨HS.1.drewN nq, ⟨HS.2.words, HS.2.marks, HS.2.infx, HS.2.err7, HS.2.err6, HS.2.size⟩⟩ : _ ∧ _)⟩
  rw [← hWe2]
  clear hWe2 HS c0 c1 hix
  have hcall := (show PartC 66 B T p t from HC) l W2 HS2.2 HS2.1.1.2
  clear HC
  unfold tokV at hcall
  go_wp2_with fail
  refine (hlet _).mono ?_
  rintro en w2 ⟨rfl, rfl⟩
  clear hlet
  go_wp2_with fail
  refine (hdig _).mono ?_
  rintro en w2 ⟨rfl, rfl⟩
  clear hdig
  go_wp2_with fail
  refine hcall.mono ?_
  rintro en W3 ⟨rfl, m3⟩
  have hq := HS2.1.trans m3 hnB
  clear hcall HS2 m3
  have z3 := hq.2
  have g0 := z3.c0
  have g1 := z3.c1
  have g2 := z3.c2
  have g3 := z3.c3
  have g4 := z3.c4
  have g5 := z3.c5
  have y0 := z3.f0
  have y1 := z3.f1
  have y2 := z3.f2
  have y3 := z3.f3
  have y4 := z3.f4
  have y5 := z3.f5
  have e0 := st6_c0 z3
  have e1 := st6_c1 z3
  have e2 := st6_c2 z3
  have e3 := st6_c3 z3
  have e4 := st6_c4 z3
  have e5 := st6_c5 z3
  have HM4 : Hid (Mv B T (t.to : Int) l false w W3) := hq.1
  clear hq z3
  go_wp2_with fail
  refine bodyPost_ret (by simp [results, Tryd.results58, go_sem, e0, e1, e2, e3, e4, e5]; rfl) rfl ?_
  exact ⟨rfl, st6_mv HM4 (Nat.le_refl _) hnB _ _ _ _ _ _⟩
set_option maxRecDepth 100000 in
set_option maxHeartbeats 2000000 in
theorem alone_str {B : Nat} {T : ByteArray} (L : List UInt8) (hT : T.data.toList = L) (p : Nat) (x : UInt8) (hx : L[p]? = some x) (hlv : isL x = false) (hdv : isD x = false) (hqv : (x.toNat == 34) = true) (hB : 8 ≤ B) (t : Tk) (hc : PartC 67 B T p t) : PartC 58 B T p t := by
  intro l w hg h
  have hix := ix T L hT p x hx
  have hBlt : B < w.heap.size := h.lt
  have hnB : w.heap.size ≠ B := by omega
  have hz := Mz.start h
  have hgz : Gd (w.alloc (.cells #[.int .i64 0, .int .i64 0, .int .i64 0, .int .i64 0, .int .i64 0, .string ⟨#[]⟩] 33)) := hg.kb hB hz.1.1
  have c0 := hz.1.2.c0
  have c1 := hz.1.2.c1
  obtain ⟨W, hWe, HS⟩ : ∃ W, W = (w.alloc (.cells #[.int .i64 0, .int .i64 0, .int .i64 0, .int .i64 0, .int .i64 0, .string ⟨#[]⟩] 33)) ∧ Hid (Mz B w.heap.size T p l false w W ∧ Gd W) := ⟨_, rfl, (⟨hz, hgz⟩ : _ ∧ _)⟩
  rw [← hWe] at c0 c1
  have hlet := impl_isL x
  rw [hlv] at hlet
  have hdig := impl_isD x
  rw [hdv] at hdig
  have hq34 : ((x.toNat : Int) == 34) = true := by simp at hqv ⊢; omega
  have HC : Hid (PartC 67 B T p t) := hc
  clear hT hx hlv hdv hqv hc hg h hz hgz
  generalize (x.toNat : Int) = xi at *
  go_enter Tryd.func58, Tryd.ntmps58
  go_wp2_with fail
  rw [← hWe]
  clear hWe
  go_quiet (fail)
  obtain ⟨W2, hWe2, HS2⟩ : ∃ W2, W2 = W.drewN nq ∧ Hid (Mz B w.heap.size T p l false w W2 ∧ Gd W2) := ⟨_, rfl, (⟨HS.1.drewN nq, ⟨HS.2.words, HS.2.marks, HS.2.infx, HS.2.err7, HS.2.err6, HS.2.size⟩⟩ : _ ∧ _)⟩
  rw [← hWe2]
  clear hWe2 HS c0 c1 hix
  have hcall := (show PartC 67 B T p t from HC) l W2 HS2.2 HS2.1.1.2
  clear HC
  unfold tokV at hcall
  go_wp2_with fail
  refine (hlet _).mono ?_
  rintro en w2 ⟨rfl, rfl⟩
  clear hlet
  go_wp2_with fail
  refine (hdig _).mono ?_
  rintro en w2 ⟨rfl, rfl⟩
  clear hdig
  go_wp2_with fail
  refine hcall.mono ?_
  rintro en W3 ⟨rfl, m3⟩
  have hq := HS2.1.trans m3 hnB
  clear hcall HS2 m3
  have z3 := hq.2
  have g0 := z3.c0
  have g1 := z3.c1
  have g2 := z3.c2
  have g3 := z3.c3
  have g4 := z3.c4
  have g5 := z3.c5
  have y0 := z3.f0
  have y1 := z3.f1
  have y2 := z3.f2
  have y3 := z3.f3
  have y4 := z3.f4
  have y5 := z3.f5
  have e0 := st6_c0 z3
  have e1 := st6_c1 z3
  have e2 := st6_c2 z3
  have e3 := st6_c3 z3
  have e4 := st6_c4 z3
  have e5 := st6_c5 z3
  have HM4 : Hid (Mv B T (t.to : Int) l false w W3) := hq.1
  clear hq z3
  go_wp2_with fail
  refine bodyPost_ret (by simp [results, Tryd.results58, go_sem, e0, e1, e2, e3, e4, e5]; rfl) rfl ?_
  exact ⟨rfl, st6_mv HM4 (Nat.le_refl _) hnB _ _ _ _ _ _⟩
set_option maxRecDepth 100000 in
set_option maxHeartbeats 2000000 in
theorem alone_sign {B : Nat} {T : ByteArray} (L : List UInt8) (hT : T.data.toList = L) (p : Nat) (x : UInt8) (hx : L[p]? = some x) (hlv : isL x = false) (hdv : isD x = false) (hqv : (x.toNat == 34) = false) (hB : 8 ≤ B) (t : Tk) (hc : PartC 68 B T p t) : PartC 58 B T p t := by
  intro l w hg h
  have hix := ix T L hT p x hx
  have hBlt : B < w.heap.size := h.lt
  have hnB : w.heap.size ≠ B := by omega
  have hz := Mz.start h
  have hgz : Gd (w.alloc (.cells #[.int .i64 0, .int .i64 0, .int .i64 0, .int .i64 0, .int .i64 0, .string ⟨#[]⟩] 33)) := hg.kb hB hz.1.1
  have c0 := hz.1.2.c0
  have c1 := hz.1.2.c1
  obtain ⟨W, hWe, HS⟩ : ∃ W, W = (w.alloc (.cells #[.int .i64 0, .int .i64 0, .int .i64 0, .int .i64 0, .int .i64 0, .string ⟨#[]⟩] 33)) ∧ Hid (Mz B w.heap.size T p l false w W ∧ Gd W) := ⟨_, rfl, (⟨hz, hgz⟩ : _ ∧ _)⟩
  rw [← hWe] at c0 c1
  have hlet := impl_isL x
  rw [hlv] at hlet
  have hdig := impl_isD x
  rw [hdv] at hdig
  have hq34 : ((x.toNat : Int) == 34) = false := by simp at hqv ⊢; omega
  have HC : Hid (PartC 68 B T p t) := hc
  clear hT hx hlv hdv hqv hc hg h hz hgz
  generalize (x.toNat : Int) = xi at *
  go_enter Tryd.func58, Tryd.ntmps58
  go_wp2_with fail
  rw [← hWe]
  clear hWe
  go_quiet (fail)
  obtain ⟨W2, hWe2, HS2⟩ : ∃ W2, W2 = W.drewN nq ∧ Hid (Mz B w.heap.size T p l false w W2 ∧ Gd W2) := ⟨_, rfl, (⟨HS.1.drewN nq, ⟨HS.2.words, HS.2.marks, HS.2.infx, HS.2.err7, HS.2.err6, HS.2.size⟩⟩ : _ ∧ _)⟩
  rw [← hWe2]
  clear hWe2 HS c0 c1 hix
  have hcall := (show PartC 68 B T p t from HC) l W2 HS2.2 HS2.1.1.2
  clear HC
  unfold tokV at hcall
  go_wp2_with fail
  refine (hlet _).mono ?_
  rintro en w2 ⟨rfl, rfl⟩
  clear hlet
  go_wp2_with fail
  refine (hdig _).mono ?_
  rintro en w2 ⟨rfl, rfl⟩
  clear hdig
  go_wp2_with fail
  refine hcall.mono ?_
  rintro en W3 ⟨rfl, m3⟩
  have hq := HS2.1.trans m3 hnB
  clear hcall HS2 m3
  have z3 := hq.2
  have g0 := z3.c0
  have g1 := z3.c1
  have g2 := z3.c2
  have g3 := z3.c3
  have g4 := z3.c4
  have g5 := z3.c5
  have y0 := z3.f0
  have y1 := z3.f1
  have y2 := z3.f2
  have y3 := z3.f3
  have y4 := z3.f4
  have y5 := z3.f5
  have e0 := st6_c0 z3
  have e1 := st6_c1 z3
  have e2 := st6_c2 z3
  have e3 := st6_c3 z3
  have e4 := st6_c4 z3
  have e5 := st6_c5 z3
  have HM4 : Hid (Mv B T (t.to : Int) l false w W3) := hq.1
  clear hq z3
  go_wp2_with fail
  refine bodyPost_ret (by simp [results, Tryd.results58, go_sem, e0, e1, e2, e3, e4, e5]; rfl) rfl ?_
  exact ⟨rfl, st6_mv HM4 (Nat.le_refl _) hnB _ _ _ _ _ _⟩
end Go.Proofs.YtogenhnonjkanaaDoor
