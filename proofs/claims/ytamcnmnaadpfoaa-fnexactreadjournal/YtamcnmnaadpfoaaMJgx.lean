import Derived.Test.YtamcnmnaadpfoaaMJga
namespace Go.Proofs.Ytamcnmnaadpfoaa.Fo
open Go.ChangeShapes Go.WideShapes Go.ChangeAt Go.RowKit
set_option linter.unusedVariables false
set_option maxRecDepth 100000
set_option maxHeartbeats 4000000 in
theorem im_num (z : Int) (w : World) : Calls Try.prog 65 #[.int .i64 z] w fun e w' => e = .returned (.agg #[.int .i64 1, .int .i64 z, .string ⟨#[]⟩, .int .i64 0]) ∧ Kb 0 w w' := by
  go_enter Try.func65, Try.ntmps65
  go_wp2_with fail
  refine bodyPost_ret (by simp [results, Try.results65, go_sem]; rfl) rfl ?_
  refine ⟨rfl, ?_⟩
  repeat (first | exact kb_alloc _ _ _ | exact (Kb.refl _ _).alloc _ | (refine Kb.setCell ?_ _ (.inr (Nat.le_refl _)) _))
set_option maxHeartbeats 4000000 in
theorem im_node (z : Int) (w : World) : Calls Try.prog 66 #[.int .i64 z] w fun e w' => e = .returned (.agg #[.int .i64 4, .int .i64 0, .string ⟨#[]⟩, .int .i64 z]) ∧ Kb 0 w w' := by
  go_enter Try.func66, Try.ntmps66
  go_wp2_with fail
  refine bodyPost_ret (by simp [results, Try.results66, go_sem]; rfl) rfl ?_
  refine ⟨rfl, ?_⟩
  repeat (first | exact kb_alloc _ _ _ | exact (Kb.refl _ _).alloc _ | (refine Kb.setCell ?_ _ (.inr (Nat.le_refl _)) _))
set_option maxHeartbeats 4000000 in
theorem im_txt (x : ByteArray) (w : World) : Calls Try.prog 67 #[.string x] w fun e w' => e = .returned (.agg #[.int .i64 3, .int .i64 0, .string x, .int .i64 0]) ∧ Kb 0 w w' := by
  go_enter Try.func67, Try.ntmps67
  go_wp2_with fail
  refine bodyPost_ret (by simp [results, Try.results67, go_sem]; rfl) rfl ?_
  refine ⟨rfl, ?_⟩
  repeat (first | exact kb_alloc _ _ _ | exact (Kb.refl _ _).alloc _ | (refine Kb.setCell ?_ _ (.inr (Nat.le_refl _)) _))
set_option maxHeartbeats 4000000 in
theorem sp_num59 (z : Int) (w : World) : Calls Try.prog 29 #[.int .i64 z] w fun e w' => e = .returned (.agg #[.int .i64 1, .int .i64 z, .string ⟨#[]⟩, .int .i64 0]) ∧ Kb 0 w w' := by
  go_enter Try.func29, Try.ntmps29
  go_wp2_with fail
  refine bodyPost_ret (by simp [results, Try.results29, go_sem]; rfl) rfl ?_
  refine ⟨rfl, ?_⟩
  repeat (first | exact kb_alloc _ _ _ | exact (Kb.refl _ _).alloc _ | (refine Kb.setCell ?_ _ (.inr (Nat.le_refl _)) _))
set_option maxHeartbeats 4000000 in
theorem sp_txt59 (x : ByteArray) (w : World) : Calls Try.prog 30 #[.string x] w fun e w' => e = .returned (.agg #[.int .i64 3, .int .i64 0, .string x, .int .i64 0]) ∧ Kb 0 w w' := by
  go_enter Try.func30, Try.ntmps30
  go_wp2_with fail
  refine bodyPost_ret (by simp [results, Try.results30, go_sem]; rfl) rfl ?_
  refine ⟨rfl, ?_⟩
  repeat (first | exact kb_alloc _ _ _ | exact (Kb.refl _ _).alloc _ | (refine Kb.setCell ?_ _ (.inr (Nat.le_refl _)) _))
end Go.Proofs.Ytamcnmnaadpfoaa.Fo

namespace Go.Proofs.Ytamcnmnaadpfoaa.Fo
open Go.ChangeShapes Go.WideShapes Go.ChangeAt Go.RowKit
set_option linter.unusedVariables false
set_option maxRecDepth 100000
theorem blk_lt {W : World} {g : Nat} {o : Obj} (h : W.heap[g]? = some o) : g < W.heap.size := (Array.getElem?_eq_some_iff.1 h).1
theorem blk_kb {W W' : World} {g : Nat} {o : Obj} (h : W.heap[g]? = some o) (k : Kb 0 W W') : W'.heap[g]? = some o := (k.block g (Nat.zero_le _) (blk_lt h)).trans h
/-- of the blocks of w0 only L, a thing whose row of values grows, is written -/
structure LS (w0 : World) (L : Nat) (t : Int) (C : Nat → Gv) (i : Nat) (v : Value) (wr : World) : Prop where
  kg : Kg L w0 wr
  lb : wr.heap[L]? = some (.cells #[.int .i64 t, v] 50 (0, 0))
  ow : wr.ownsRow w0.heap.size 41 4 v i (vls C i)
  lt : L < w0.heap.size
theorem LS.kb {w0 wr w6 : World} {L i : Nat} {t : Int} {C : Nat → Gv} {v : Value} (h : LS w0 L t C i v wr) (k : Kb 0 wr w6) : LS w0 L t C i v w6 :=
  ⟨h.kg.trans (Kg.of_kb k), blk_kb h.lb k, own_kb h.ow k, h.lt⟩
theorem LS.new {w0 : World} {L : Nat} {t : Int} {C : Nat → Gv} (h : w0.heap[L]? = some (.cells #[.int .i64 t, .slice none 0 0] 50 (0, 0))) : LS w0 L t C 0 (.slice none 0 0) w0 :=
  ⟨⟨rfl, rfl, Nat.le_refl _, fun _ _ _ => rfl⟩, h, World.ownsRow_nil _ _ _ _, blk_lt h⟩
/-- behind the append -/
theorem LS.grown {w0 wr w8 : World} {L i : Nat} {t : Int} {C : Nat → Gv} {v : Value} (h : LS w0 L t C i v wr) (hg : wr.grownBy w8 v.ownBlock) : Kg L w0 w8 ∧ w8.heap[L]? = some (.cells #[.int .i64 t, v] 50 (0, 0)) := by
  have hlt := h.lt
  have hs := h.kg.size
  have hne : ∀ k, k < w0.heap.size → some k ≠ v.ownBlock := fun k hk e => by
    have := (h.ow.lt k e.symm).1
    omega
  refine ⟨⟨hg.os.trans h.kg.os, hg.output.trans h.kg.output, Nat.le_trans hs hg.size, fun k hk hkL => (hg.block k (by omega) (hne k hk)).trans (h.kg.block k hk hkL)⟩, (hg.block L (by omega) (hne L hlt)).trans h.lb⟩
theorem LS.push {w0 wr w8 : World} {L i : Nat} {t : Int} {C : Nat → Gv} {v v' : Value} (h : LS w0 L t C i v wr) (ho : w8.ownsRow w0.heap.size 41 4 v' (i + 1) (vls C i ++ gcl (C i))) (hg : wr.grownBy w8 v.ownBlock) : LS w0 L t C (i + 1) v' (w8.setCell ⟨L, 1, none⟩ v') := by
  obtain ⟨hk, hb⟩ := h.grown hg
  have hlt := h.lt
  refine ⟨⟨hk.os, hk.output, by simpa using hk.size, fun k h1 h2 => (Below.heap_setCell _ _ _ _ h2).trans (hk.block k h1 h2)⟩, set_known _ hb, own_keep ho (fun g e => Below.heap_setCell _ _ _ _ (by have := (ho.lt g e).1; show g ≠ L; omega)), hlt⟩
theorem LS.kbo {w w0 wr : World} {L i : Nat} {t : Int} {C : Nat → Gv} {v : Value} (h : LS w0 L t C i v wr) (k : Kb 0 w w0) (hL : w.heap.size ≤ L) : Kb 0 w wr :=
  ⟨h.kg.os.trans k.os, h.kg.output.trans k.output, Nat.le_trans k.size h.kg.size, fun q _ hq => (h.kg.block q (Nat.lt_of_lt_of_le hq k.size) (by omega)).trans (k.block q (Nat.zero_le _) hq)⟩
/-- the program's stops: their row of nodes and the nodes themselves -/
structure PS (w0 : World) (L : Nat) (C : Nat → Gv) (F : Nat → Td) (i : Nat) (v u : Value) (V : Nat → Value) (wr : World) : Prop where
  ls : LS w0 L 3 C i v wr
  th : TH w0.heap.size wr u i F V
  dv : ∀ k, k < i → ∀ g, (V k).ownBlock = some g → v.ownBlock ≠ some g
/-- behind the first half of a round -/
structure PH (w0 : World) (L : Nat) (C : Nat → Gv) (F : Nat → Td) (i : Nat) (v u : Value) (V : Nat → Value) (wr : World) : Prop where
  ls : LS w0 L 3 C (i + 1) v wr
  th : TH w0.heap.size wr u i F V
  dv : ∀ k, k < i → ∀ g, (V k).ownBlock = some g → v.ownBlock ≠ some g
theorem PS.kb {w0 wr w6 : World} {L i : Nat} {C : Nat → Gv} {F : Nat → Td} {v u : Value} {V : Nat → Value} (h : PS w0 L C F i v u V wr) (k : Kb 0 wr w6) : PS w0 L C F i v u V w6 := ⟨h.ls.kb k, h.th.kb k, h.dv⟩
theorem PH.kb {w0 wr w6 : World} {L i : Nat} {C : Nat → Gv} {F : Nat → Td} {v u : Value} {V : Nat → Value} (h : PH w0 L C F i v u V wr) (k : Kb 0 wr w6) : PH w0 L C F i v u V w6 := ⟨h.ls.kb k, h.th.kb k, h.dv⟩
theorem PS.half {w0 wr w8 : World} {L i g cap : Nat} {C : Nat → Gv} {F : Nat → Td} {v u : Value} {V : Nat → Value} (h : PS w0 L C F i v u V wr) (ho : w8.ownsRow w0.heap.size 41 4 (.slice (some ⟨g, 0, none⟩) (i + 1) cap) (i + 1) (vls C i ++ gcl (C i))) (hg : wr.grownBy w8 v.ownBlock) (hgg : v.ownBlock = some g ∨ g = wr.heap.size) : PH w0 L C F i (.slice (some ⟨g, 0, none⟩) (i + 1) cap) u V (w8.setCell ⟨L, 1, none⟩ (.slice (some ⟨g, 0, none⟩) (i + 1) cap)) := by
  have hlt := h.ls.lt
  have keep : ∀ {t s n : Nat} {x : Value} {l : List Value}, wr.ownsRow w0.heap.size t s x n l → (∀ q, x.ownBlock = some q → v.ownBlock ≠ some q) → (w8.setCell ⟨L, 1, none⟩ (.slice (some ⟨g, 0, none⟩) (i + 1) cap)).ownsRow w0.heap.size t s x n l := fun {t s n x l} hx hn => own_keep hx (fun q e => by
    have hq := hx.lt q e
    rw [Below.heap_setCell _ _ _ _ (by show q ≠ L; omega)]
    exact hg.block q hq.2 (fun e2 => hn q e e2.symm))
  refine ⟨h.ls.push ho hg, ⟨keep h.th.nn (fun q e e2 => own_ne h.th.nn h.ls.ow (by decide) e e2.symm), fun k hk => keep (h.th.vs k hk) (h.dv k hk)⟩, fun k hk q e e2 => ?_⟩
  have e3 : g = q := Option.some.inj e2
  subst e3
  rcases hgg with e4 | e4
  · exact h.dv k hk g e e4
  · have := ((h.th.vs k hk).lt g e).2
    omega
theorem PH.full {w0 wr w6 w9 : World} {L i g : Nat} {C : Nat → Gv} {F : Nat → Td} {v u u' : Value} {V : Nat → Value} (h : PH w0 L C F i v u V wr) (k : Kb 0 wr w6) (hr : wr.heap.size ≤ g) (hx : w6.ownsRow w0.heap.size 41 4 (.slice (some ⟨g, 0, none⟩) 4 4) (F i).c (vls (F i).C (F i).c)) (ho : w9.ownsRow w0.heap.size 50 2 u' (i + 1) (tcl F V i ++ [.int .i64 (F i).t, .slice (some ⟨g, 0, none⟩) 4 4])) (hg : w6.grownBy w9 u.ownBlock) : PS w0 L C F (i + 1) v u' (fun k => if k = i then .slice (some ⟨g, 0, none⟩) 4 4 else V k) w9 := by
  have hlt := h.ls.lt
  have l6 := h.ls.kb k
  have hu := own_kb h.th.nn k
  have hs6 := l6.kg.size
  have hne : ∀ q, q < w0.heap.size → some q ≠ u.ownBlock := fun q hq e => by
    have := (hu.lt q e.symm).1
    omega
  refine ⟨⟨⟨hg.os.trans l6.kg.os, hg.output.trans l6.kg.output, Nat.le_trans hs6 hg.size, fun q h1 h2 => (hg.block q (by omega) (hne q h1)).trans (l6.kg.block q h1 h2)⟩, (hg.block L (by omega) (hne L hlt)).trans l6.lb, own_keep l6.ow (fun q e => hg.block q (l6.ow.lt q e).2 (own_ne l6.ow hu (by decide) e)), hlt⟩, h.th.push k hx ho hg, fun j hj q e => ?_⟩
  by_cases ej : j = i
  · rw [if_pos ej] at e
    have e3 : g = q := Option.some.inj e
    subst e3
    intro e4
    have := (h.ls.ow.lt g e4).2
    omega
  · rw [if_neg ej] at e
    exact h.dv j (by omega) q e
theorem app_none {b p : Option Addr} {N cap c : Nat} {W : World} (h : N ≤ cap) : (Builtin.append_ #[42, 42] 42 #[.slice b N cap, .slice p 0 c]).run Try.prog W = .ok (.slice b N cap) W := by
  obtain ⟨i1, hi1, hz0, hz1, hz2⟩ := info_parts infoTp
  have hl : ∀ (x : Addr), (loadCells x 0).run Try.prog W = .ok #[] W := fun x => by simpa using run_loadCells_list (P := Try.prog) W x [] (by simp)
  cases p <;> cases b <;> simp [Builtin.append_, run_underlying Try.underlying42, sizeOf, typeInfo, hi1, hz1, h, storeCells, hl, Builtin.lenOf, Builtin.firstCells]
theorem wp_append_none {P : Program} {w : World} {o : Oper} {a : Act} {K : Act → World → Prop} {Q : Exit → Act → World → Prop} (s x : Operand) (t : TypeId) (ho : o.op = .call { callee := .builtin .append, args := #[s, x], argTypes := #[t, t] }) {b p : Option Addr} {N cap c : Nat} (hs : a.eval s = .slice b N cap) (hx : a.eval x = .slice p 0 c)
    (hrun : (Builtin.append_ #[t, t] o.type #[.slice b N cap, .slice p 0 c]).run P w = .ok (.slice b N cap) w) (h : K (a.put o.dst (.slice b N cap)) w) : o.wp P a w K Q := by
  unfold Oper.wp execOp
  simp only [ho, resolve, invoke, builtin, Sem.run_bind, Sem.run_pure, Result.andThen_ok, List.map_toArray, List.map_cons, List.map_nil, hs, hx, hrun]
  exact h
end Go.Proofs.Ytamcnmnaadpfoaa.Fo

namespace Go.Proofs.Ytamcnmnaadpfoaa.Fo
open Go.ChangeShapes Go.WideShapes Go.ChangeAt Go.RowKit
set_option linter.unusedVariables false
set_option maxRecDepth 100000
/-- a thing of four values was made -/
def RtB (w2 wx : World) (Z : Nat) (t : Int) (l : List Value) : Prop := Kb 0 w2 wx ∧ ∃ x : Addr, wx.heap[Z]? = some (.cells #[.int .i64 t, .slice (some x) 4 4] 50 (0, 0)) ∧ wx.ownsRow w2.heap.size 41 4 (.slice (some x) 4 4) 4 l ∧ w2.heap.size ≤ Z
theorem rtb_of {w2 W : World} {Z R : Nat} {t : Int} {l : List Value} (k : Kb 0 w2 W) (ho : W.ownsRow w2.heap.size 41 4 (.slice (some ⟨R, 0, none⟩) 4 4) 4 l) (hb : W.heap[Z]? = some (.cells #[.int .i64 0, .slice none 0 0] 50 (0, 0))) (hz : w2.heap.size ≤ Z) : RtB w2 (s2 W Z t (.slice (some ⟨R, 0, none⟩) 4 4)) Z t l := by
  refine ⟨⟨by unfold s2; exact k.os, by unfold s2; exact k.output, by rw [s2_size]; exact k.size, fun q h1 h2 => (s2_far _ _ _ _ (by omega)).trans (k.block q h1 h2)⟩, ⟨R, 0, none⟩, s2_known hb t _, own_keep ho (fun g e => s2_far _ _ _ _ (own_ty ho hb (by decide) e)), hz⟩
theorem wr3 (i : Nat) (h : (i : Int) < 1000) : IntKind.i64.wrap (3 + (i : Int)) = 3 + (i : Int) := by
  have e : (3 + (i : Int)) % 2 ^ 64 = 3 + (i : Int) := Int.emod_eq_of_lt (by omega) (by omega)
  simp only [IntKind.wrap, IntKind.bits, IntKind.signed, e]
  rw [if_neg]
  simp
  omega
/-- the three first nodes' rows and those of the stops -/
def v3 (a b c : Value) (V : Nat → Value) (k : Nat) : Value := if k = 0 then a else if k = 1 then b else if k = 2 then c else V (k - 3)
theorem v3_st (a b c : Value) (V : Nat → Value) (k : Nat) : v3 a b c V (3 + k) = V k := by
  unfold v3
  rw [if_neg (by omega), if_neg (by omega), if_neg (by omega), show 3 + k - 3 = k by omega]
theorem gr_cells (n : Nat) (S : Nat → ByteArray) (p q : Int) (i : Nat) (T : Nat → Gv) (a b c : Value) (V : Nat → Value) : tcl (jF ⟨n, S, p, q, i, T⟩) (v3 a b c V) (3 + i) = [.int .i64 1, a, .int .i64 2, b, .int .i64 3, c] ++ tcl (fun k => stT (T k)) V i := by
  rw [tcl_add, tcl_congr (F := fun k => jF ⟨n, S, p, q, i, T⟩ (3 + k)) (G := fun k => stT (T k)) (V := fun k => v3 a b c V (3 + k)) (U := V) (fun k _ => ⟨jF_st _ _, v3_st _ _ _ _ _⟩)]
  rfl
theorem gr_fin {w wr WF : World} {n i : Nat} {S : Nat → ByteArray} {p q : Int} {T : Nat → Gv} {V : Nat → Value} {a b c u v : Value} {RL : List Value} {gc : Array Value} (hRL : RL = vls (rtT p q).C 4)
    (ha : wr.ownsRow w.heap.size 41 4 a 4 RL) (hb : wr.ownsRow w.heap.size 41 4 b n (vls (lnT n S).C n)) (hc : wr.ownsRow w.heap.size 41 4 c i (vls (skT i).C i)) (ht : TH w.heap.size wr u i (fun k => stT (T k)) V)
    (hg : wr.heap[w.heap.size + 1]? = some (.cells gc 44 (0, 0))) (k0 : Kb 0 w wr) (hos : WF.os = wr.os) (hout : WF.output = wr.output) (hsz : wr.heap.size ≤ WF.heap.size) (hk : ∀ g, g < wr.heap.size → g ≠ w.heap.size + 1 → WF.heap[g]? = wr.heap[g]?)
    (hn : WF.ownsRow w.heap.size 50 2 v (3 + i) ([.int .i64 1, a, .int .i64 2, b, .int .i64 3, c] ++ tcl (fun k => stT (T k)) V i)) : RowT 0 WF v (3 + i) (jF ⟨n, S, p, q, i, T⟩) ∧ Kb 0 w WF := by
  have kp : ∀ {x : Value} {m : Nat} {l : List Value}, wr.ownsRow w.heap.size 41 4 x m l → WF.ownsRow w.heap.size 41 4 x m l := fun {x m l} h => own_keep h (fun g e => hk g (h.lt g e).2 (own_ty h hg (by decide) e))
  refine ⟨(TH.row (V := v3 a b c V) ⟨by rw [gr_cells]; exact hn, fun k hk3 => ?_⟩).mono (Nat.zero_le _), ⟨hos.trans k0.os, hout.trans k0.output, Nat.le_trans k0.size hsz, fun g _ hg2 => (hk g (Nat.lt_of_lt_of_le hg2 k0.size) (by omega)).trans (k0.block g (Nat.zero_le _) hg2)⟩⟩
  by_cases e0 : k = 0
  · subst e0
    rw [hRL] at ha
    exact kp ha
  by_cases e1 : k = 1
  · subst e1
    exact kp hb
  by_cases e2 : k = 2
  · subst e2
    exact kp hc
  obtain ⟨j, rfl⟩ : ∃ j, k = 3 + j := ⟨k - 3, by omega⟩
  rw [v3_st, jF_st]
  exact kp (ht.vs j (by omega))
theorem s5_os (W : World) (B : Nat) (a m : Int) (x : ByteArray) (r : Int) (v : Value) : (s5 W B a m x r v).os = W.os ∧ (s5 W B a m x r v).output = W.output := by
  have e1 : (s5 W B a m x r v).os = W.os := by unfold s5 s4; rfl
  have e2 : (s5 W B a m x r v).output = W.output := by unfold s5 s4; rfl
  exact ⟨e1, e2⟩
end Go.Proofs.Ytamcnmnaadpfoaa.Fo
