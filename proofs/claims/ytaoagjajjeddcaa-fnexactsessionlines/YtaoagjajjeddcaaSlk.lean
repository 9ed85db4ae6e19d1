import Derived.Test.YtaoagjajjeddcaaSlf
import Derived.Test.YtaoagjajjeddcaaSlh
import Derived.Test.YtaoagjajjeddcaaEvf
import Derived.Test.YtaoagjajjeddcaaEvo
namespace Go.Proofs.Ytaoagjajjeddcaa.Fo
open Go.ChangeShapes Go.WideShapes Go.ChangeAt Go.RowKit
set_option linter.unusedVariables false
set_option maxRecDepth 100000

/-- an event is one -/
def EvQ (e : Ev) : Prop := EvP e.op e.n e.m e.x.size e.y.size e.q e.k e.f e.l e.z.size
/-- the lines of an event that is one -/
noncomputable def lnE (e : Ev) : List ByteArray := if dc (EvQ e) = true then lns e.op e.n e.x e.y else []
/-- the lines of the first i events -/
noncomputable def Lns (F : Nat → Ev) : Nat → List ByteArray
  | 0 => []
  | i + 1 => Lns F i ++ lnE (F i)
theorem evq_3 {e : Ev} (h : EvQ e) : e.op = 3 → 0 ≤ e.n ∧ e.n ≤ 50 := fun h3 => by
  have := h.2.1
  rw [h3] at this
  exact this
theorem evq_x {e : Ev} (h : EvQ e) : e.x.size ≤ 281474976710656 := by
  have := h.2.2.2.1.2
  have h2 : xhi e.op ≤ 4000 := by unfold xhi; (repeat' split) <;> omega
  omega
theorem evq_y {e : Ev} (h : EvQ e) : e.y.size ≤ 281474976710656 := by
  have := h.2.2.2.2.1.2
  have h2 : yhi e.op ≤ 65536 := by unfold yhi; (repeat' split) <;> omega
  omega
theorem lns_len {op n : Int} {x y : ByteArray} (h : op = 3 → 0 ≤ n ∧ n ≤ 50) : (lns op n x y).length ≤ 50 := by
  unfold lns
  by_cases h1 : op = 1
  · rw [if_pos h1]; exact (by decide : 1 ≤ 50)
  rw [if_neg h1]
  by_cases h2 : op = 2
  · rw [if_pos h2]; exact (by decide : 2 ≤ 50)
  rw [if_neg h2]
  by_cases h3 : op = 3
  · rw [if_pos h3, List.length_replicate]; have := h h3; omega
  rw [if_neg h3]
  by_cases h4 : op = 4
  · rw [if_pos h4]; exact (by decide : 3 ≤ 50)
  rw [if_neg h4]; exact Nat.zero_le _
theorem Lns_len (F : Nat → Ev) : ∀ i, (Lns F i).length ≤ 50 * i
  | 0 => Nat.le_refl _
  | i + 1 => by
    show (Lns F i ++ lnE (F i)).length ≤ _
    rw [List.length_append]
    have h1 := Lns_len F i
    have h2 : (lnE (F i)).length ≤ 50 := by
      unfold lnE
      by_cases h : EvQ (F i)
      · rw [if_pos (dc_t h)]; exact lns_len (evq_3 h)
      · rw [if_neg (by rw [dc_f h]; decide)]; exact Nat.zero_le _
    omega
theorem app_nothing {W : World} {p b : Option Addr} {N cap c : Nat} (h : N ≤ cap) : (Builtin.append_ #[41, 41] 41 #[.slice b N cap, .slice p 0 c]).run Try.prog W = .ok (.slice b N cap) W := by
  obtain ⟨i1, hi1, hz0, hz1, hz2⟩ := infoT
  have hl : ∀ (x : Addr), (loadCells x 0).run Try.prog W = .ok #[] W := fun x => by simpa using run_loadCells_list (P := Try.prog) W x [] (by simp)
  cases p <;> cases b <;> simp [Builtin.append_, run_underlying Try.underlying41, sizeOf, typeInfo, hi1, hz1, h, storeCells, hl, Builtin.lenOf, Builtin.firstCells]
theorem wpList_append_nil {P : Program} {w : World} {ops : Array Oper} {rest : List Oper} {o : Oper} {a : Act} {Q : Exit → Act → World → Prop} (hgd : o.guard = none) (s x : Operand) (t : TypeId) (ho : o.op = .call { callee := .builtin .append, args := #[s, x], argTypes := #[t, t] }) {b p : Option Addr} {N cap c : Nat} (hs : a.eval s = .slice b N cap) (hx : a.eval x = .slice p 0 c)
    (hrun : (Builtin.append_ #[t, t] o.type #[.slice b N cap, .slice p 0 c]).run P w = .ok (.slice b N cap) w) (h : wpList P ops Q rest (a.put o.dst (.slice b N cap)) w) : wpList P ops Q (o :: rest) a w :=
  wpList_plain hgd fun _ hK => by
    unfold Oper.wp execOp
    simp only [ho, resolve, invoke, builtin, Sem.run_bind, Sem.run_pure, Result.andThen_ok, List.map_toArray, List.map_cons, List.map_nil, hs, hx, hrun]
    exact hK _ _ h
theorem own_cap {W : World} {B t s n : Nat} {v : Value} {l : List Value} (h : W.ownsRow B t s v n l) : ∃ p c, v = .slice p n c ∧ n ≤ c := by
  rcases h.2 with ⟨e, e2⟩ | ⟨g, cap, cur, e, _, _, e4, _⟩
  · exact ⟨none, 0, by rw [e, e2], by omega⟩
  · exact ⟨_, _, e, e4⟩
theorem own_keep8 {W W' : World} {B t s n : Nat} {v : Value} {l : List Value} (h : W.ownsRow B t s v n l) (hb : ∀ g, v.ownBlock = some g → W'.heap[g]? = W.heap[g]?) : W'.ownsRow B t s v n l := by
  refine ⟨h.1, ?_⟩
  rcases h.2 with h1 | ⟨g, cap, cur, h1, h2, h3, h4⟩
  · exact .inl h1
  · exact .inr ⟨g, cap, cur, h1, h2, (hb g (by rw [h1]; rfl)).trans h3, h4⟩
theorem kb_app8 {w wr w8 : World} {B t s n : Nat} {v : Value} {l : List Value} (hk : Kb 0 w wr) (ho : wr.ownsRow B t s v n l) (hB : w.heap.size ≤ B) (hg : wr.grownBy w8 v.ownBlock) : Kb 0 w w8 :=
  ⟨hg.os.trans hk.os, hg.output.trans hk.output, Nat.le_trans hk.size hg.size, fun q h1 h2 => by
    have hq := hk.size
    exact (hg.block q (by omega) (fun e => by have := (ho.lt q e.symm).1; omega)).trans (hk.block q h1 h2)⟩
set_option maxHeartbeats 32000000 in
theorem sp_sess {va : Value} {n : Nat} {F : Nat → Ev} (w : World) (ha : RowEv w va n F) (hn : n ≤ 1048576) (hF : ∀ i, i < n → EvZ (F i)) :
    Calls Try.prog 16 #[va] w fun e w' => ∃ v, e = .returned v ∧ w'.ownsRow w.heap.size 9 1 v (Lns F n).length ((Lns F n).map Value.string) ∧ Kb 0 w w' := by
  obtain ⟨pa, ca, rfl, ha2⟩ := ha
  obtain ⟨i1, hi1, hz0, hz1, hz2⟩ := infoT
  have HI1 : Hid (Try.prog.info? 9 = some i1) := hi1
  have hnI : (n : Int) ≤ 1048576 := by omega
  have HA : Hid ((0 < n → ∃ a : Addr, pa = some a ∧ n ≤ ca ∧ ∀ i, i < n → ∃ pk ck, CelE w (a.add (i * 10)) (F i) (.slice pk (F i).q ck) ∧ RowV w (.slice pk (F i).q ck) (F i).q (fun j => .bool ((F i).A j))) ∧ (∀ i, i < n → EvZ (F i)) ∧ n ≤ 1048576) := (⟨ha2, hF, hn⟩ : _ ∧ _)
  clear ha2 hF hn hi1
  go_enter Try.func16, Try.ntmps16
  go_wp2_with fail
  go_loopw [3, 8] (fun s3 s8 wr => ∃ i : Nat, s8 = .int .i64 (i : Int) ∧ i ≤ n ∧ Hid (wr.ownsRow w.heap.size 9 1 s3 (Lns F i).length ((Lns F i).map Value.string) ∧ Kb 0 w wr)) (fun _ s8 _ => n - (intOf s8).toNat)
  case atStart => exact ⟨0, rfl, Nat.zero_le _, (⟨World.ownsRow_nil _ _ _ _, Kb.refl _ _⟩ : _ ∧ _)⟩
  case round =>
    obtain ⟨i, rfl, hin, HX⟩ := hrel
    obtain ⟨ho, hk⟩ := (show _ ∧ _ from HX)
    obtain ⟨pv, cv, rfl, hcv⟩ := own_cap ho
    clear HX
    rcases Nat.lt_or_ge i n with hi | hi
    case inr =>
      obtain rfl : i = n := by omega
      have HE : Hid (wr.ownsRow w.heap.size 9 1 (.slice pv (Lns F i).length cv) (Lns F i).length ((Lns F i).map Value.string) ∧ Kb 0 w wr) := (⟨ho, hk⟩ : _ ∧ _)
      clear ho hk HA HI1 hz0 hz1 hz2 hcv
      go_wp2_with fail
      go_ret
      exact ⟨_, rfl, HE⟩
    have hiI : (i : Int) < (n : Int) := by omega
    obtain ⟨hA1, hA2, hA3⟩ := (show _ ∧ _ ∧ _ from HA)
    obtain ⟨a, rfl, hca, hra⟩ := hA1 (by omega)
    obtain ⟨pk, ck, hcel, hkr⟩ := hra i hi
    obtain ⟨z1, z2, z3, z4⟩ := hA2 i hi
    obtain ⟨d0, d1, d2, d3, d4, d5, d6, d7, d8, d9⟩ := hcel.keep hk
    obtain ⟨w1, hw1⟩ : ∃ w1, w1 = wr.alloc (.cells #[.int .i64 (F i).op, .int .i64 (F i).n, .int .i64 (F i).m, .string (F i).x, .string (F i).y, .int .i64 (F i).k, .int .i64 (F i).f, .int .i64 (F i).l, .string (F i).z, .slice pk (F i).q ck] 35) := ⟨_, rfl⟩
    have bw1 : w1.heap[wr.heap.size]? = some (.cells #[.int .i64 (F i).op, .int .i64 (F i).n, .int .i64 (F i).m, .string (F i).x, .string (F i).y, .int .i64 (F i).k, .int .i64 (F i).f, .int .i64 (F i).l, .string (F i).z, .slice pk (F i).q ck] 35 (0, 0)) := by rw [hw1]; exact alloc_new _ _ _
    have k1 : Kb 0 wr w1 := by rw [hw1]; exact kb_alloc _ _ _
    have HOK : Calls Try.prog 11 #[.agg #[.int .i64 (F i).op, .int .i64 (F i).n, .int .i64 (F i).m, .string (F i).x, .string (F i).y, .int .i64 (F i).k, .int .i64 (F i).f, .int .i64 (F i).l, .string (F i).z, .slice pk (F i).q ck]] w1 fun e w' => e = .returned (.bool (dc (EvQ (F i)))) ∧ Kb 0 w1 w' := sp_event w1 z1 z2 z3 z4
    have hLl : ((Lns F i).length : Int) ≤ 52428800 := by have := Lns_len F i; omega
    obtain ⟨B, hBB⟩ : ∃ B, B = wr.heap.size := ⟨_, rfl⟩
    rw [← hBB] at bw1
    have c0 : w1.cell? ⟨B, 0, none⟩ = some (.int .i64 (F i).op) := cell_of bw1 rfl
    have c1 : w1.cell? ⟨B, 1, none⟩ = some (.int .i64 (F i).n) := cell_of bw1 rfl
    have c2 : w1.cell? ⟨B, 2, none⟩ = some (.int .i64 (F i).m) := cell_of bw1 rfl
    have c3 : w1.cell? ⟨B, 3, none⟩ = some (.string (F i).x) := cell_of bw1 rfl
    have c4 : w1.cell? ⟨B, 4, none⟩ = some (.string (F i).y) := cell_of bw1 rfl
    have c5 : w1.cell? ⟨B, 5, none⟩ = some (.int .i64 (F i).k) := cell_of bw1 rfl
    have c6 : w1.cell? ⟨B, 6, none⟩ = some (.int .i64 (F i).f) := cell_of bw1 rfl
    have c7 : w1.cell? ⟨B, 7, none⟩ = some (.int .i64 (F i).l) := cell_of bw1 rfl
    have c8 : w1.cell? ⟨B, 8, none⟩ = some (.string (F i).z) := cell_of bw1 rfl
    have c9 : w1.cell? ⟨B, 9, none⟩ = some (.slice pk (F i).q ck) := cell_of bw1 rfl
    have HW1 : Hid (w1 = wr.alloc (.cells #[.int .i64 (F i).op, .int .i64 (F i).n, .int .i64 (F i).m, .string (F i).x, .string (F i).y, .int .i64 (F i).k, .int .i64 (F i).f, .int .i64 (F i).l, .string (F i).z, .slice pk (F i).q ck] 35) ∧ B = wr.heap.size) := (⟨hw1, hBB⟩ : _ ∧ _)
    have HOW : Hid (wr.ownsRow w.heap.size 9 1 (.slice pv (Lns F i).length cv) (Lns F i).length ((Lns F i).map Value.string) ∧ Kb 0 w wr ∧ Kb 0 wr w1 ∧ (Lns F i).length ≤ cv) := (⟨ho, hk, k1, hcv⟩ : _ ∧ _)
    clear ho hk k1 hcv hw1 bw1 hBB hA1 hA2 hA3 hra hcel hkr z1 z2 z3 z4 hin
    go_upto_region 5 with fail
    rw [← (show _ ∧ _ from HW1).1, ← (show _ ∧ _ from HW1).2]
    clear HW1 d0 d1 d2 d3 d4 d5 d6 d7 d8 d9
    go_wp2_with fail
    refine HOK.mono ?_
    rintro e w2 ⟨rfl, k2⟩
    clear HOK
    by_cases hev : EvQ (F i)
    case neg =>
      have eL : Lns F (i + 1) = Lns F i := by show Lns F i ++ lnE (F i) = Lns F i; unfold lnE; rw [if_neg (by rw [dc_f hev]; decide), List.append_nil]
      obtain ⟨ho, hk, k1, hcv⟩ := (show _ ∧ _ ∧ _ ∧ _ from HOW)
      have HN : Hid (w2.ownsRow w.heap.size 9 1 (.slice pv (Lns F i).length cv) (Lns F (i + 1)).length ((Lns F (i + 1)).map Value.string) ∧ Kb 0 w w2) := (⟨by rw [eL]; exact own_keep8 ho (fun g hg => ((k1.trans k2).block g (Nat.zero_le _) (ho.lt g hg).2)), (hk.trans k1).trans k2⟩ : _ ∧ _)
      rw [dc_f hev]
      clear ho hk k1 hcv k2 HOW c0 c1 c2 c3 c4 c5 c6 c7 c8 c9 HA hz0 hz1 hz2
      go_wp2_with fail
      go_roundw
      case rel => exact ⟨i + 1, by go_num, by omega, HN⟩
      case measure => simp [intOf]; omega
    rw [dc_t hev]
    have eL : Lns F (i + 1) = Lns F i ++ lns (F i).op (F i).n (F i).x (F i).y := by show Lns F i ++ lnE (F i) = _; unfold lnE; rw [if_pos (dc_t hev)]
    have HLN : Calls Try.prog 32 #[.agg #[.int .i64 (F i).op, .int .i64 (F i).n, .int .i64 (F i).m, .string (F i).x, .string (F i).y, .int .i64 (F i).k, .int .i64 (F i).f, .int .i64 (F i).l, .string (F i).z, .slice pk (F i).q ck]] w2 (LnP (lns (F i).op (F i).n (F i).x (F i).y) w2) := sp_lines w2 (evq_3 hev)
    have hl50 := lns_len (x := (F i).x) (y := (F i).y) (evq_3 hev)
    obtain ⟨LL, hLL⟩ : ∃ LL, LL = lns (F i).op (F i).n (F i).x (F i).y := ⟨_, rfl⟩
    rw [← hLL] at HLN eL hl50
    have HEL : Hid (Lns F (i + 1) = Lns F i ++ LL) := eL
    replace c0 := k2.cell c0
    replace c1 := k2.cell c1
    replace c2 := k2.cell c2
    replace c3 := k2.cell c3
    replace c4 := k2.cell c4
    replace c5 := k2.cell c5
    replace c6 := k2.cell c6
    replace c7 := k2.cell c7
    replace c8 := k2.cell c8
    replace c9 := k2.cell c9
    have HK2 : Hid (Kb 0 wr w2) := (show _ ∧ _ ∧ _ ∧ _ from HOW).2.2.1.trans k2
    have hl50I : (LL.length : Int) ≤ 50 := by omega
    clear k2 eL hLL hev hl50 HA
    go_wp2_with fail
    refine HLN.mono ?_
    rintro e w3 ⟨v3, rfl, r3, k3⟩
    obtain ⟨p3, c3', rfl, r3'⟩ := id r3
    clear HLN c0 c1 c2 c3 c4 c5 c6 c7 c8 c9 r3
    obtain ⟨ho, hk, k1, hcv⟩ := (show _ ∧ _ ∧ _ ∧ _ from HOW)
    have k03 := (show Kb 0 wr w2 from HK2).trans k3
    have ho3 : w3.ownsRow w.heap.size 9 1 (.slice pv (Lns F i).length cv) (Lns F i).length ((Lns F i).map Value.string) := own_keep8 ho (fun g hg => k03.block g (Nat.zero_le _) (ho.lt g hg).2)
    have kw3 := hk.trans k03
    have zw3 := kw3.size
    by_cases h0 : LL.length = 0
    case pos =>
      have eN : LL = [] := List.eq_nil_of_length_eq_zero h0
      have HN : Hid (w3.ownsRow w.heap.size 9 1 (.slice pv (Lns F i).length cv) (Lns F (i + 1)).length ((Lns F (i + 1)).map Value.string) ∧ Kb 0 w w3) := (⟨by rw [show Lns F (i + 1) = _ from HEL, eN, List.append_nil]; exact ho3, kw3⟩ : _ ∧ _)
      rw [h0]
      have HAP : Hid ((Builtin.append_ #[41, 41] 41 #[.slice pv (Lns F i).length cv, .slice p3 0 c3']).run Try.prog w3 = .ok (.slice pv (Lns F i).length cv) w3) := app_nothing hcv
      clear ho hk k1 hcv k03 ho3 kw3 zw3 r3' HOW HK2 HEL eN h0 k3 hz0 hz1 hz2
      go_wp2_with (refine wpList_append_nil (by rfl) (.tmp 14) (.tmp 16) 41 (by rfl) (b := pv) (p := p3) (N := (Lns F i).length) (cap := cv) (c := c3') (by rfl) (by rfl) HAP ?_)
      go_roundw
      case rel => exact ⟨i + 1, by go_num, by omega, HN⟩
      case measure => simp [intOf]; omega
    obtain ⟨ad, rfl, hadc, hcel⟩ := r3' (by omega)
    have HO3 : Hid (w3.ownsRow w.heap.size 9 1 (.slice pv (Lns F i).length cv) (Lns F i).length ((Lns F i).map Value.string) ∧ Kb 0 w w3 ∧ w.heap.size ≤ w3.heap.size ∧ ∀ j u, (LL.map Value.string)[j]? = some u → w3.cell? (ad.add j) = some u) := (⟨ho3, kw3, zw3, fun j u hu => by
      rw [List.getElem?_map] at hu
      cases e : LL[j]? with
      | none => rw [e] at hu; cases hu
      | some s => rw [e] at hu; cases hu; exact hcel j s e⟩ : _ ∧ _)
    have hl0 : 0 < LL.length := by omega
    clear ho hk k1 hcv k03 ho3 kw3 zw3 r3' HOW HK2 h0 k3 hcel
    go_wp2_with (refine wpList_append_lies _ (by rfl) (.tmp 14) (.tmp 16) 41 (by rfl) w.heap.size 9 i1 (.string ⟨#[]⟩) 1 16 Try.underlying41 HI1 hz0 hz1 hz2 rfl (by decide) (.slice pv (Lns F i).length cv) (Lns F i).length ((Lns F i).map Value.string) (by rfl) (show _ ∧ _ ∧ _ ∧ _ from HO3).1 ad LL.length c3' (LL.map Value.string) (by rfl) (by rw [List.length_map, Nat.mul_one]) (show _ ∧ _ ∧ _ ∧ _ from HO3).2.2.2 (by intro y hy; obtain ⟨s, _, rfl⟩ := List.mem_map.1 hy; rfl) hl0 (by unfold maxLen; omega) (by omega) (show _ ∧ _ ∧ _ ∧ _ from HO3).2.2.1 w3.heap.size rfl ?_; intro g cap w8 hown1 hgrow1 hat hlt; have HN : Hid (w8.ownsRow w.heap.size 9 1 (.slice (some ⟨g, 0, none⟩) ((Lns F i).length + LL.length) cap) (Lns F (i + 1)).length ((Lns F (i + 1)).map Value.string) ∧ Kb 0 w w8) := (⟨by rw [show Lns F (i + 1) = _ from HEL, List.length_append, List.map_append]; exact hown1, kb_app8 (show _ ∧ _ ∧ _ ∧ _ from HO3).2.1 (show _ ∧ _ ∧ _ ∧ _ from HO3).1 (Nat.le_refl _) hgrow1⟩ : _ ∧ _); clear hown1 hgrow1 hat hlt)
    go_roundw
    case rel => exact ⟨i + 1, by go_num, by omega, HN⟩
    case measure => simp [intOf]; omega
set_option maxHeartbeats 32000000 in
theorem im_sess {va : Value} {n : Nat} {F : Nat → Ev} (w : World) (ha : RowEv w va n F) (hn : n ≤ 1048576) (hF : ∀ i, i < n → EvZ (F i)) :
    Calls Try.prog 18 #[va] w fun e w' => ∃ v, e = .returned v ∧ w'.ownsRow w.heap.size 9 1 v (Lns F n).length ((Lns F n).map Value.string) ∧ Kb 0 w w' := by
  obtain ⟨pa, ca, rfl, ha2⟩ := ha
  obtain ⟨i1, hi1, hz0, hz1, hz2⟩ := infoT
  have HI1 : Hid (Try.prog.info? 9 = some i1) := hi1
  have hnI : (n : Int) ≤ 1048576 := by omega
  have HA : Hid ((0 < n → ∃ a : Addr, pa = some a ∧ n ≤ ca ∧ ∀ i, i < n → ∃ pk ck, CelE w (a.add (i * 10)) (F i) (.slice pk (F i).q ck) ∧ RowV w (.slice pk (F i).q ck) (F i).q (fun j => .bool ((F i).A j))) ∧ (∀ i, i < n → EvZ (F i)) ∧ n ≤ 1048576) := (⟨ha2, hF, hn⟩ : _ ∧ _)
  clear ha2 hF hn hi1
  go_enter Try.func18, Try.ntmps18
  go_wp2_with fail
  go_loopw [3, 8] (fun s3 s8 wr => ∃ i : Nat, s8 = .int .i64 (i : Int) ∧ i ≤ n ∧ Hid (wr.ownsRow w.heap.size 9 1 s3 (Lns F i).length ((Lns F i).map Value.string) ∧ Kb 0 w wr)) (fun _ s8 _ => n - (intOf s8).toNat)
  case atStart => exact ⟨0, rfl, Nat.zero_le _, (⟨World.ownsRow_nil _ _ _ _, Kb.refl _ _⟩ : _ ∧ _)⟩
  case round =>
    obtain ⟨i, rfl, hin, HX⟩ := hrel
    obtain ⟨ho, hk⟩ := (show _ ∧ _ from HX)
    obtain ⟨pv, cv, rfl, hcv⟩ := own_cap ho
    clear HX
    rcases Nat.lt_or_ge i n with hi | hi
    case inr =>
      obtain rfl : i = n := by omega
      have HE : Hid (wr.ownsRow w.heap.size 9 1 (.slice pv (Lns F i).length cv) (Lns F i).length ((Lns F i).map Value.string) ∧ Kb 0 w wr) := (⟨ho, hk⟩ : _ ∧ _)
      clear ho hk HA HI1 hz0 hz1 hz2 hcv
      go_wp2_with fail
      go_ret
      exact ⟨_, rfl, HE⟩
    have hiI : (i : Int) < (n : Int) := by omega
    obtain ⟨hA1, hA2, hA3⟩ := (show _ ∧ _ ∧ _ from HA)
    obtain ⟨a, rfl, hca, hra⟩ := hA1 (by omega)
    obtain ⟨pk, ck, hcel, hkr⟩ := hra i hi
    obtain ⟨z1, z2, z3, z4⟩ := hA2 i hi
    obtain ⟨d0, d1, d2, d3, d4, d5, d6, d7, d8, d9⟩ := hcel.keep hk
    obtain ⟨w1, hw1⟩ : ∃ w1, w1 = wr.alloc (.cells #[.int .i64 (F i).op, .int .i64 (F i).n, .int .i64 (F i).m, .string (F i).x, .string (F i).y, .int .i64 (F i).k, .int .i64 (F i).f, .int .i64 (F i).l, .string (F i).z, .slice pk (F i).q ck] 35) := ⟨_, rfl⟩
    have bw1 : w1.heap[wr.heap.size]? = some (.cells #[.int .i64 (F i).op, .int .i64 (F i).n, .int .i64 (F i).m, .string (F i).x, .string (F i).y, .int .i64 (F i).k, .int .i64 (F i).f, .int .i64 (F i).l, .string (F i).z, .slice pk (F i).q ck] 35 (0, 0)) := by rw [hw1]; exact alloc_new _ _ _
    have k1 : Kb 0 wr w1 := by rw [hw1]; exact kb_alloc _ _ _
    have HOK : Calls Try.prog 13 #[.agg #[.int .i64 (F i).op, .int .i64 (F i).n, .int .i64 (F i).m, .string (F i).x, .string (F i).y, .int .i64 (F i).k, .int .i64 (F i).f, .int .i64 (F i).l, .string (F i).z, .slice pk (F i).q ck]] w1 fun e w' => e = .returned (.bool (dc (EvQ (F i)))) ∧ Kb 0 w1 w' := im_event w1 z1 z2 z3 z4
    have hLl : ((Lns F i).length : Int) ≤ 52428800 := by have := Lns_len F i; omega
    obtain ⟨B, hBB⟩ : ∃ B, B = wr.heap.size := ⟨_, rfl⟩
    rw [← hBB] at bw1
    have c0 : w1.cell? ⟨B, 0, none⟩ = some (.int .i64 (F i).op) := cell_of bw1 rfl
    have c1 : w1.cell? ⟨B, 1, none⟩ = some (.int .i64 (F i).n) := cell_of bw1 rfl
    have c2 : w1.cell? ⟨B, 2, none⟩ = some (.int .i64 (F i).m) := cell_of bw1 rfl
    have c3 : w1.cell? ⟨B, 3, none⟩ = some (.string (F i).x) := cell_of bw1 rfl
    have c4 : w1.cell? ⟨B, 4, none⟩ = some (.string (F i).y) := cell_of bw1 rfl
    have c5 : w1.cell? ⟨B, 5, none⟩ = some (.int .i64 (F i).k) := cell_of bw1 rfl
    have c6 : w1.cell? ⟨B, 6, none⟩ = some (.int .i64 (F i).f) := cell_of bw1 rfl
    have c7 : w1.cell? ⟨B, 7, none⟩ = some (.int .i64 (F i).l) := cell_of bw1 rfl
    have c8 : w1.cell? ⟨B, 8, none⟩ = some (.string (F i).z) := cell_of bw1 rfl
    have c9 : w1.cell? ⟨B, 9, none⟩ = some (.slice pk (F i).q ck) := cell_of bw1 rfl
    have HW1 : Hid (w1 = wr.alloc (.cells #[.int .i64 (F i).op, .int .i64 (F i).n, .int .i64 (F i).m, .string (F i).x, .string (F i).y, .int .i64 (F i).k, .int .i64 (F i).f, .int .i64 (F i).l, .string (F i).z, .slice pk (F i).q ck] 35) ∧ B = wr.heap.size) := (⟨hw1, hBB⟩ : _ ∧ _)
    have HOW : Hid (wr.ownsRow w.heap.size 9 1 (.slice pv (Lns F i).length cv) (Lns F i).length ((Lns F i).map Value.string) ∧ Kb 0 w wr ∧ Kb 0 wr w1 ∧ (Lns F i).length ≤ cv) := (⟨ho, hk, k1, hcv⟩ : _ ∧ _)
    clear ho hk k1 hcv hw1 bw1 hBB hA1 hA2 hA3 hra hcel hkr z1 z2 z3 z4 hin
    go_upto_region 5 with fail
    rw [← (show _ ∧ _ from HW1).1, ← (show _ ∧ _ from HW1).2]
    clear HW1 d0 d1 d2 d3 d4 d5 d6 d7 d8 d9
    go_wp2_with fail
    refine HOK.mono ?_
    rintro e w2 ⟨rfl, k2⟩
    clear HOK
    by_cases hev : EvQ (F i)
    case neg =>
      have eL : Lns F (i + 1) = Lns F i := by show Lns F i ++ lnE (F i) = Lns F i; unfold lnE; rw [if_neg (by rw [dc_f hev]; decide), List.append_nil]
      obtain ⟨ho, hk, k1, hcv⟩ := (show _ ∧ _ ∧ _ ∧ _ from HOW)
      have HN : Hid (w2.ownsRow w.heap.size 9 1 (.slice pv (Lns F i).length cv) (Lns F (i + 1)).length ((Lns F (i + 1)).map Value.string) ∧ Kb 0 w w2) := (⟨by rw [eL]; exact own_keep8 ho (fun g hg => ((k1.trans k2).block g (Nat.zero_le _) (ho.lt g hg).2)), (hk.trans k1).trans k2⟩ : _ ∧ _)
      rw [dc_f hev]
      clear ho hk k1 hcv k2 HOW c0 c1 c2 c3 c4 c5 c6 c7 c8 c9 HA hz0 hz1 hz2
      go_wp2_with fail
      go_roundw
      case rel => exact ⟨i + 1, by go_num, by omega, HN⟩
      case measure => simp [intOf]; omega
    rw [dc_t hev]
    have eL : Lns F (i + 1) = Lns F i ++ lns (F i).op (F i).n (F i).x (F i).y := by show Lns F i ++ lnE (F i) = _; unfold lnE; rw [if_pos (dc_t hev)]
    have HLN : Calls Try.prog 33 #[.agg #[.int .i64 (F i).op, .int .i64 (F i).n, .int .i64 (F i).m, .string (F i).x, .string (F i).y, .int .i64 (F i).k, .int .i64 (F i).f, .int .i64 (F i).l, .string (F i).z, .slice pk (F i).q ck]] w2 (LnP (lns (F i).op (F i).n (F i).x (F i).y) w2) := im_lines w2 (evq_3 hev) (evq_x hev) (evq_y hev)
    have hl50 := lns_len (x := (F i).x) (y := (F i).y) (evq_3 hev)
    obtain ⟨LL, hLL⟩ : ∃ LL, LL = lns (F i).op (F i).n (F i).x (F i).y := ⟨_, rfl⟩
    rw [← hLL] at HLN eL hl50
    have HEL : Hid (Lns F (i + 1) = Lns F i ++ LL) := eL
    replace c0 := k2.cell c0
    replace c1 := k2.cell c1
    replace c2 := k2.cell c2
    replace c3 := k2.cell c3
    replace c4 := k2.cell c4
    replace c5 := k2.cell c5
    replace c6 := k2.cell c6
    replace c7 := k2.cell c7
    replace c8 := k2.cell c8
    replace c9 := k2.cell c9
    have HK2 : Hid (Kb 0 wr w2) := (show _ ∧ _ ∧ _ ∧ _ from HOW).2.2.1.trans k2
    have hl50I : (LL.length : Int) ≤ 50 := by omega
    clear k2 eL hLL hev hl50 HA
    go_wp2_with fail
    refine HLN.mono ?_
    rintro e w3 ⟨v3, rfl, r3, k3⟩
    obtain ⟨p3, c3', rfl, r3'⟩ := id r3
    clear HLN c0 c1 c2 c3 c4 c5 c6 c7 c8 c9 r3
    obtain ⟨ho, hk, k1, hcv⟩ := (show _ ∧ _ ∧ _ ∧ _ from HOW)
    have k03 := (show Kb 0 wr w2 from HK2).trans k3
    have ho3 : w3.ownsRow w.heap.size 9 1 (.slice pv (Lns F i).length cv) (Lns F i).length ((Lns F i).map Value.string) := own_keep8 ho (fun g hg => k03.block g (Nat.zero_le _) (ho.lt g hg).2)
    have kw3 := hk.trans k03
    have zw3 := kw3.size
    by_cases h0 : LL.length = 0
    case pos =>
      have eN : LL = [] := List.eq_nil_of_length_eq_zero h0
      have HN : Hid (w3.ownsRow w.heap.size 9 1 (.slice pv (Lns F i).length cv) (Lns F (i + 1)).length ((Lns F (i + 1)).map Value.string) ∧ Kb 0 w w3) := (⟨by rw [show Lns F (i + 1) = _ from HEL, eN, List.append_nil]; exact ho3, kw3⟩ : _ ∧ _)
      rw [h0]
      have HAP : Hid ((Builtin.append_ #[41, 41] 41 #[.slice pv (Lns F i).length cv, .slice p3 0 c3']).run Try.prog w3 = .ok (.slice pv (Lns F i).length cv) w3) := app_nothing hcv
      clear ho hk k1 hcv k03 ho3 kw3 zw3 r3' HOW HK2 HEL eN h0 k3 hz0 hz1 hz2
      go_wp2_with (refine wpList_append_nil (by rfl) (.tmp 14) (.tmp 16) 41 (by rfl) (b := pv) (p := p3) (N := (Lns F i).length) (cap := cv) (c := c3') (by rfl) (by rfl) HAP ?_)
      go_roundw
      case rel => exact ⟨i + 1, by go_num, by omega, HN⟩
      case measure => simp [intOf]; omega
    obtain ⟨ad, rfl, hadc, hcel⟩ := r3' (by omega)
    have HO3 : Hid (w3.ownsRow w.heap.size 9 1 (.slice pv (Lns F i).length cv) (Lns F i).length ((Lns F i).map Value.string) ∧ Kb 0 w w3 ∧ w.heap.size ≤ w3.heap.size ∧ ∀ j u, (LL.map Value.string)[j]? = some u → w3.cell? (ad.add j) = some u) := (⟨ho3, kw3, zw3, fun j u hu => by
      rw [List.getElem?_map] at hu
      cases e : LL[j]? with
      | none => rw [e] at hu; cases hu
      | some s => rw [e] at hu; cases hu; exact hcel j s e⟩ : _ ∧ _)
    have hl0 : 0 < LL.length := by omega
    clear ho hk k1 hcv k03 ho3 kw3 zw3 r3' HOW HK2 h0 k3 hcel
    go_wp2_with (refine wpList_append_lies _ (by rfl) (.tmp 14) (.tmp 16) 41 (by rfl) w.heap.size 9 i1 (.string ⟨#[]⟩) 1 16 Try.underlying41 HI1 hz0 hz1 hz2 rfl (by decide) (.slice pv (Lns F i).length cv) (Lns F i).length ((Lns F i).map Value.string) (by rfl) (show _ ∧ _ ∧ _ ∧ _ from HO3).1 ad LL.length c3' (LL.map Value.string) (by rfl) (by rw [List.length_map, Nat.mul_one]) (show _ ∧ _ ∧ _ ∧ _ from HO3).2.2.2 (by intro y hy; obtain ⟨s, _, rfl⟩ := List.mem_map.1 hy; rfl) hl0 (by unfold maxLen; omega) (by omega) (show _ ∧ _ ∧ _ ∧ _ from HO3).2.2.1 w3.heap.size rfl ?_; intro g cap w8 hown1 hgrow1 hat hlt; have HN : Hid (w8.ownsRow w.heap.size 9 1 (.slice (some ⟨g, 0, none⟩) ((Lns F i).length + LL.length) cap) (Lns F (i + 1)).length ((Lns F (i + 1)).map Value.string) ∧ Kb 0 w w8) := (⟨by rw [show Lns F (i + 1) = _ from HEL, List.length_append, List.map_append]; exact hown1, kb_app8 (show _ ∧ _ ∧ _ ∧ _ from HO3).2.1 (show _ ∧ _ ∧ _ ∧ _ from HO3).1 (Nat.le_refl _) hgrow1⟩ : _ ∧ _); clear hown1 hgrow1 hat hlt)
    go_roundw
    case rel => exact ⟨i + 1, by go_num, by omega, HN⟩
    case measure => simp [intOf]; omega
end Go.Proofs.Ytaoagjajjeddcaa.Fo
