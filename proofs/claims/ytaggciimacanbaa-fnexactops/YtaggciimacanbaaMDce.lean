import Derived.Test.YtaggciimacanbaaMKac
import Derived.Test.YtaggciimacanbaaMDcc
namespace Go.Proofs.Ytaggciimacanbaa.Fo
set_option linter.unusedVariables false
set_option maxRecDepth 100000
/-- a list of so many zero bytes and a nil slice -/
def isZ : List Value → Nat → Bool
  | .int .u8 x :: r, n + 1 => x == 0 && isZ r n
  | [.slice none 0 0], 0 => true
  | _, _ => false
theorem isZ_eq : ∀ (l : List Value) (n : Nat), isZ l n = true → l = List.replicate n (.int .u8 0) ++ [.slice none 0 0]
  | [], n, h => by unfold isZ at h; cases h
  | v :: r, n, h => by
    unfold isZ at h
    split at h
    · rename_i x r' m e
      injection e with e1 e2
      subst e1 e2
      simp only [Bool.and_eq_true, beq_iff_eq] at h
      rw [isZ_eq _ _ h.2, h.1]
      rfl
    · rename_i e
      injection e with e1 e2
      subst e1 e2
      rfl
    · cases h
def chkZ : Option TypeInfo → Bool
  | some i => match i.zero with
    | some (.agg a) => isZ a.toList 16512
    | _ => false
  | none => false
theorem chk_eq {o : Option TypeInfo} (h : chkZ o = true) : ∃ i, o = some i ∧ i.zero = some (Value.agg (List.replicate 16512 (Value.int .u8 0) ++ [Value.slice none 0 0]).toArray) := by
  unfold chkZ at h
  split at h
  · rename_i i
    split at h
    · rename_i a e
      refine ⟨i, rfl, ?_⟩
      rw [e, ← isZ_eq _ _ h]
    · cases h
  · cases h
theorem drv_size : (Try.prog.info? 124).map (·.size) = some 16513 := by kernel_rfl
theorem drv_zero : chkZ (Try.prog.info? 124) = true := by kernel_rfl
end Go.Proofs.Ytaggciimacanbaa.Fo

namespace Go.Proofs.Ytaggciimacanbaa.Fo
open Go.ChangeShapes Go.WideShapes Go.ChangeAt Go.RowKit
set_option linter.unusedVariables false
set_option maxRecDepth 100000
/-- the cells of n pages -/
def pgs (P : Nat → Nat → Int) : Nat → List Value
  | 0 => []
  | n + 1 => pgs P n ++ pgl (P n)
theorem pgs_len (P : Nat → Nat → Int) : ∀ n, (pgs P n).length = n * 64
  | 0 => rfl
  | n + 1 => by rw [pgs, List.length_append, pgs_len P n, pgl_len, Nat.add_mul, Nat.one_mul]
theorem pgs_at (P : Nat → Nat → Int) (j : Nat) (hj : j < 64) : ∀ n i, i < n → (pgs P n)[i * 64 + j]? = some (.int .u8 (P i j))
  | 0, i, h => by omega
  | n + 1, i, h => by
    rw [pgs]
    rcases Nat.lt_or_ge i n with q | q
    · rw [List.getElem?_append_left (by rw [pgs_len]; omega)]
      exact pgs_at P j hj n i q
    · obtain rfl : i = n := by omega
      rw [List.getElem?_append_right (by rw [pgs_len]; omega), pgs_len, Nat.add_sub_cancel_left]
      exact pgl_at _ j hj
theorem pgs_page (P : Nat → Nat → Int) {n i : Nat} (h : i < n) : (pgs P n).toArray.extract (i * 64) (i * 64 + 64) = (pgl (P i)).toArray := by
  have hl : (pgs P n).toArray.size = n * 64 := by rw [List.size_toArray]; exact pgs_len P n
  have h1 : (i + 1) * 64 ≤ n * 64 := Nat.mul_le_mul_right 64 h
  apply Array.ext_getElem?
  intro j
  rw [Array.getElem?_extract, hl]
  by_cases hj : j < 64
  · rw [if_pos (by omega), List.getElem?_toArray, List.getElem?_toArray, pgs_at P j hj n i h, pgl_at _ j hj]
  · rw [if_neg (by omega), List.getElem?_toArray, List.getElem?_eq_none (by rw [pgl_len]; omega)]
theorem und_pages : Try.prog.underlying 121 = some (.array 258 92) := by kernel_rfl
theorem info_pages : (Try.prog.info? 121).map (·.size) = some 16512 := by kernel_rfl
theorem agg_page (w : World) : (isAgg 92).run Try.prog w = .ok true w := by
  unfold isAgg
  rw [Sem.run_bind, run_underlying und_page w]
  rfl
theorem size_page (w : World) : (sizeOf 92).run Try.prog w = .ok 64 w := by
  cases hq : Try.prog.info? 92 with
  | none => have := infoP; rw [hq] at this; cases this
  | some i =>
    have hs : i.size = 64 := by have := infoP; rw [hq] at this; simpa using this
    simp [sizeOf, typeInfo, Sem.run_bind, hq, hs]
theorem run_page (P : Nat → Nat → Int) {i : Nat} (h : i < 258) (w : World) : (Instr.index 121 (.agg (pgs P 258).toArray) (.int .i64 (i : Int))).run Try.prog w = .ok (.agg (pgl (P i)).toArray) w := by
  have hc : 0 ≤ (i : Int) ∧ (i : Int) < ((258 : Nat) : Int) := by omega
  have hp : (part 92 (pgs P 258).toArray (i * 64)).run Try.prog w = .ok (.agg (pgl (P i)).toArray) w := by
    unfold part
    simp only [Sem.run_bind, agg_page, size_page, Result.andThen_ok, if_true, Sem.run_pure, pgs_page P h]
  unfold Instr.index
  simp only [asIntOf, Sem.run_bind, Sem.run_pure, Result.andThen_ok, run_underlying und_pages w]
  rw [if_pos hc]
  simp only [Sem.run_bind, size_page, Result.andThen_ok, Int.toNat_natCast]
  exact hp
theorem exec_load_mid {P : Program} {o : Oper} {a : Act} {w : World} (ty : TypeId) (x : Operand) (ho : o.op = .load ty x) (b f : Nat) (hx : a.eval x = .pointer (some ⟨b, f, none⟩)) (cs : List Value) (d : TypeDesc) (hc : w.rangeAt b f cs) (hu : P.underlying ty = some d) (hd : d.isRow = true) (hi : (P.info? ty).map (·.size) = some cs.length) : (execOp a.eval o).run P w = .ok (.value (.agg cs.toArray)) w := by
  unfold execOp
  simp only [ho, hx, Instr.loadAt, Instr.sureAddr, Sem.run_bind, Sem.run_pure, Result.andThen_ok, run_loadVar_mid w b f ty cs d hc hu hd hi]
/-- the blocks of a drive's pages -/
def pE (P : Nat → Nat → Int) : Nat → Ed := fun i => ⟨false, 0, 64, P i⟩
theorem own_page2 {W W' : World} {P : Nat → Nat → Int} {i : Nat} (h : W' = W.alloc (.cells (pgl (P i)).toArray 92)) : OwnR W' (.slice (some ⟨W.heap.size, 0, none⟩) 64 64) W.heap.size (pE P i).c (ub (pE P i).A) := own_page h
/-- a page in a block of its own -/
theorem page_new (W : World) (A : Nat → Int) (W5 : World) (h : W5 = (W.alloc (.cells Z64 92)).setCells W.heap.size 0 (pgl A)) : (W.alloc (.cells Z64 92)).there W.heap.size 0 (pgl A).toArray.size ∧ Kb 0 W W5 ∧ W5.rangeAt W.heap.size 0 (pgl A) ∧ W5.heap.size = W.heap.size + 1 := by
  have b1 : (W.alloc (.cells Z64 92)).heap[W.heap.size]? = some (.cells Z64 92 (0, 0)) := alloc_new _ _ _
  have t1 : (W.alloc (.cells Z64 92)).there W.heap.size 0 64 := there_blk b1 0 64 (by show 0 + 64 ≤ 64; omega)
  obtain ⟨g1, g2, g3, g4⟩ := setCells_frame W.heap.size (pgl A) 0 (W.alloc (.cells Z64 92))
  rw [← h] at g1 g2 g3 g4
  have ka := kb_alloc 0 W (.cells Z64 92)
  refine ⟨(by rw [pgl_len]; exact t1 : (W.alloc (.cells Z64 92)).there W.heap.size 0 (pgl A).length), ⟨g1.trans ka.os, g2.trans ka.output, by rw [g3]; exact ka.size, fun q h1 h2 => (g4 q (by omega)).trans (ka.block q h1 h2)⟩, ?_, by rw [g3, World.size_alloc]⟩
  rw [h]
  exact World.rangeAt_setCells_same _ _ _ _ (by rw [pgl_len]; exact t1)
end Go.Proofs.Ytaggciimacanbaa.Fo

namespace Go.Proofs.Ytaggciimacanbaa.Fo
open Go.ChangeShapes Go.WideShapes Go.ChangeAt Go.RowKit
set_option linter.unusedVariables false
set_option maxRecDepth 100000
set_option maxHeartbeats 16000000 in
theorem im_disk0 {P : Nat → Nat → Int} (w : World) (dv : Nat) (hr : w.rangeAt dv 0 (pgs P 258)) (hw : w.cell? ⟨dv, 16512, none⟩ = some (.slice none 0 0)) (Q : Nat → Ed) :
    Calls Try.prog 82 #[.pointer (some ⟨dv, 0, none⟩)] w fun e w' => ∃ v1 v2, e = .returned (.agg #[v1, v2]) ∧ OwD w.heap.size w'.heap.size w' v1 v2 ⟨258, pE P, 0, Q⟩ ∧ Kb 0 w w' := by
  obtain ⟨w2, hw2⟩ : ∃ w2, w2 = (w.alloc (.cells #[.slice none 0 0, .slice none 0 0] 30)).alloc (.cells #[.slice none 0 0, .slice none 0 0] 30) := ⟨_, rfl⟩
  have hB0 : BI w (pE P) 0 (.slice none 0 0) w2 := BI.start w _ w2 hw2
  have HB0 : Hid (BI w (pE P) 0 (.slice none 0 0) w2) := hB0
  obtain ⟨PGS, hPGS⟩ : ∃ PGS, PGS = pgs P 258 := ⟨_, rfl⟩
  have HIX : Hid (∀ i : Nat, i < 258 → ∀ W, (Instr.index 121 (.agg PGS.toArray) (.int .i64 (i : Int))).run Try.prog W = .ok (.agg (pgl (P i)).toArray) W) := (fun i hi W => by rw [hPGS]; exact run_page P hi W : ∀ i : Nat, _)
  have HR : Hid (w2.rangeAt dv 0 PGS ∧ (Try.prog.info? 121).map (·.size) = some PGS.length) := (⟨fun j v hv => by rw [hPGS] at hv; exact hB0.2.2.2.1.cell (hr j v hv), by rw [hPGS, pgs_len]; exact info_pages⟩ : _ ∧ _)
  have HWT : Hid (w.cell? ⟨dv, 16512, none⟩ = some (.slice none 0 0)) := hw
  have HW2 : Hid (w2 = _) := hw2
  clear hw2 hr hw hPGS hB0
  obtain ⟨i1, hi1, hz0, hz1, hz2⟩ := infoBB
  have HI1 : Hid (Try.prog.info? 26 = some i1) := hi1
  clear hi1
  go_enter Try.func82, Try.ntmps82
  go_upto_region 2 with fail
  rw [← (show w2 = _ from HW2)]
  clear HW2
  go_wp2_with (refine wpList_load_mid (by rfl) 121 (.tmp 10) (by rfl) dv 0 (by rfl) PGS _ (show _ ∧ _ from HR).1 und_pages rfl (show _ ∧ _ from HR).2 ?_)
  clear HR
  go_loopw [12] (fun s12 wr => ∃ (i : Nat) (v : Value), s12 = .int .i64 (i : Int) ∧ i ≤ 258 ∧ Hid (BI w (pE P) i v wr)) (fun s12 _ => 258 - (intOf s12).toNat)
  case atStart => exact ⟨0, _, rfl, Nat.zero_le _, HB0⟩
  case round =>
    clear HB0
    obtain ⟨i, v, rfl, hil, HX⟩ := hrel
    have hX := (show BI w (pE P) i v wr from HX)
    obtain ⟨pv, cv, rfl⟩ := hX.shape
    clear HX
    by_cases hi : i < 258
    case neg =>
      obtain rfl : i = 258 := by omega
      obtain ⟨_, r, d, kk, _⟩ := id hX
      have c0 : wr.cell? ⟨w.heap.size + 1, 0, none⟩ = some (.slice pv 258 cv) := cell_of d rfl
      have c1 : wr.cell? ⟨w.heap.size + 1, 1, none⟩ = some (.slice none 0 0) := cell_of d rfl
      have a0 : wr.cell? ⟨w.heap.size, 0, none⟩ = some (.slice none 0 0) := cell_of r rfl
      have a1 : wr.cell? ⟨w.heap.size, 1, none⟩ = some (.slice none 0 0) := cell_of r rfl
      have wt : wr.cell? ⟨dv, 16512, none⟩ = some (.slice none 0 0) := kk.cell (show w.cell? ⟨dv, 16512, none⟩ = _ from HWT)
      have fy : ∀ j, wr.frozen? ⟨w.heap.size, j, none⟩ = false := fun j => frozen_of r
      have HX : Hid (BI w (pE P) 258 (.slice pv 258 cv) wr) := hX
      clear hX r d kk HI1 hz0 hz1 hz2 hil hi HIX HWT
      go_wp2_with fail
      go_loopw [28] (fun s28 wq => s28 = .int .i64 0 ∧ wq = wr) (fun _ _ => 0)
      case atStart => exact ⟨rfl, rfl⟩
      case round =>
        obtain ⟨rfl, rfl⟩ := hrel
        go_wp2_with fail
        obtain ⟨WF, hWF⟩ : ∃ WF, WF = (wr.setCell ⟨w.heap.size, 0, none⟩ (.slice pv 258 cv)).setCell ⟨w.heap.size, 1, none⟩ (.slice none 0 0) := ⟨_, rfl⟩
        obtain ⟨f1, f2, f3, f4⟩ := (show BI w (pE P) 258 (.slice pv 258 cv) wr from HX).fin (Q := Q) WF hWF
        rw [← hWF]
        clear hWF HX
        refine bodyPost_ret (by simp [results, Try.results82, go_sem, f3, f4]; rfl) rfl ?_
        exact ⟨_, _, rfl, f1, f2⟩
    have hI : (i : Int) < 258 := by omega
    obtain ⟨PG, hPG⟩ : ∃ PG, PG = pgl (P i) := ⟨_, rfl⟩
    have hidx : ∀ W, (Instr.index 121 (.agg PGS.toArray) (.int .i64 (i : Int))).run Try.prog W = .ok (.agg PG.toArray) W := by rw [hPG]; exact (show ∀ i : Nat, i < 258 → _ from HIX) i hi
    obtain ⟨W5, hW5⟩ : ∃ W5, W5 = (wr.alloc (.cells Z64 92)).setCells wr.heap.size 0 PG := ⟨_, rfl⟩
    obtain ⟨t5, k5, r5, z5⟩ := page_new wr (P i) W5 (by rw [← hPG]; exact hW5)
    rw [← hPG] at t5 r5
    have hlP : (Try.prog.info? 92).map (·.size) = some PG.length := by rw [hPG, pgl_len]; exact infoP
    have h1P : PG.toArray.all (·.oneCell') = true := by rw [hPG]; exact all_oneCell_toArray (pgl_one _)
    have HP5 : Hid ((wr.alloc (.cells Z64 92)).there wr.heap.size 0 PG.toArray.size ∧ (Try.prog.info? 92).map (·.size) = some PG.length ∧ PG.toArray.all (·.oneCell') = true ∧ W5 = (wr.alloc (.cells Z64 92)).setCells wr.heap.size 0 PG ∧ W5.rangeAt wr.heap.size 0 PG) := (⟨t5, hlP, h1P, hW5, r5⟩ : _ ∧ _)
    have HST : Hid (∀ W : World, Kb 0 W5 W → ∃ CL, ((W.alloc (.cells PG.toArray 92)).cell? ⟨w.heap.size + 1, 0, none⟩ = some (.slice pv i cv) ∧ (∀ ob, ((W.alloc (.cells PG.toArray 92)).alloc ob).cell? ⟨w.heap.size + 1, 0, none⟩ = some (.slice pv i cv)) ∧ w.heap.size + 2 ≤ (W.alloc (.cells PG.toArray 92)).heap.size ∧ (W.alloc (.cells PG.toArray 92)).ownsRow (w.heap.size + 2) 26 1 (.slice pv i cv) i CL) ∧
      ∀ (ob : Obj) (W8 : World) (g cap : Nat), W8.ownsRow (w.heap.size + 2) 26 1 (.slice (some ⟨g, 0, none⟩) (i + 1) cap) (i + 1) (CL ++ [.slice (some ⟨W.heap.size, 0, none⟩) 64 64]) → ((W.alloc (.cells PG.toArray 92)).alloc ob).grownBy W8 (Value.slice pv i cv).ownBlock → ((Value.slice pv i cv).ownBlock = some g ∨ g = (W.alloc (.cells PG.toArray 92)).heap.size + 1) →
        (W8.cell? ⟨w.heap.size + 1, 0, none⟩ = some (.slice pv i cv) ∧ ∀ j, W8.frozen? ⟨w.heap.size + 1, j, none⟩ = false) ∧ BI w (pE P) (i + 1) (.slice (some ⟨g, 0, none⟩) (i + 1) cap) (W8.setCell ⟨w.heap.size + 1, 0, none⟩ (.slice (some ⟨g, 0, none⟩) (i + 1) cap))) := (fun W kW => by rw [hPG]; exact (hX.keep (k5.trans kW)).step (kb_alloc 0 W _) (own_page2 rfl) (fun _ => ⟨Nat.le_refl _, by rw [World.size_alloc]; omega⟩) : ∀ W : World, _)
    have c5 : W5.cell? ⟨w.heap.size + 1, 0, none⟩ = some (.slice pv i cv) := by obtain ⟨_, r, d, _, _⟩ := hX.keep k5; exact cell_of d rfl
    have HNB : Hid (some wr.heap.size ≠ (Value.slice pv i cv).ownBlock) := (fun e => by
      obtain ⟨⟨V, G, hb⟩, _⟩ := hX
      exact absurd (hb.ro.lt _ e.symm).2 (by omega) : some wr.heap.size ≠ (Value.slice pv i cv).ownBlock)
    clear hX hil HIX t5 k5 r5 z5 hlP h1P hW5 hPG HWT
    go_upto_region 5 with (refine wpList_store_mid (by rfl) 92 (.tmp 5) (.tmp 14) (by rfl) wr.heap.size 0 PG.toArray (by rfl) (by rfl) (show _ ∧ _ from HP5).1 (show _ ∧ _ ∧ _ from HP5).2.1 (show _ ∧ _ ∧ _ ∧ _ from HP5).2.2.1 ?_)
    clear hidx
    generalize hwg : World.setCells _ _ _ _ = wg
    have hwe : wg = W5 := hwg.symm.trans (show _ ∧ _ ∧ _ ∧ _ ∧ _ from HP5).2.2.2.1.symm
    rw [hwe]
    clear hwg hwe
    refine AnyL.region (S := fun W' => W'.cell? ⟨w.heap.size + 1, 0, none⟩ = some (.slice pv i cv) ∧ W'.rangeAt wr.heap.size 0 PG) (z := 7) (by kernel_rfl) ?_
    have hS0 : (fun W' : World => W'.cell? ⟨w.heap.size + 1, 0, none⟩ = some (.slice pv i cv) ∧ W'.rangeAt wr.heap.size 0 PG) W5.drew := ⟨c5, (show _ ∧ _ ∧ _ ∧ _ ∧ _ from HP5).2.2.2.2⟩
    obtain ⟨CL, ⟨hS6, hS6a, h6z, hown6⟩, H8⟩ := (show ∀ W : World, Kb 0 W5 W → _ from HST) W5.drew (Kb.drewN (Kb.refl _ _) 1)
    obtain ⟨W0, hW0⟩ : ∃ W0, W0 = W5.drew := ⟨_, rfl⟩
    have hlP : (Try.prog.info? 92).map (·.size) = some PG.length := (show _ ∧ _ ∧ _ from HP5).2.1
    rw [← hW0] at hS0 hS6 hS6a h6z hown6 H8 ⊢
    have HRR : Hid (W0.rangeAt wr.heap.size 0 PG) := hS0.2
    have HS8 : Hid (∀ (ob : Obj) (W8 : World) (g cap : Nat), _) := H8
    have HLP : Hid ((Try.prog.info? 92).map (·.size) = some PG.length) := hlP
    clear c5 HST H8 hW0 HP5 hlP
    refine AnyL.takeAt 0 (.pointer (some ⟨w.heap.size + 1, 0, none⟩)) rfl (by kernel_rfl) (by kernel_rfl) (by kernel_rfl) (by kernel_rfl) (fun _ _ _ h => h) rfl hS0 (by intro W hW; first | go_simp | (obtain ⟨i0, i1⟩ := hW; go_simp)) ?_
    try simp only [Act.put, List.setIfInBounds_toArray, List.set_cons_zero, List.set_cons_succ]
    refine AnyL.takeAt 1 (.slice pv i cv) rfl (by kernel_rfl) (by kernel_rfl) (by kernel_rfl) (by kernel_rfl) (fun _ _ _ h => h) rfl hS0 (by intro W hW; first | go_simp | (obtain ⟨i0, i1⟩ := hW; go_simp)) ?_
    try simp only [Act.put, List.setIfInBounds_toArray, List.set_cons_zero, List.set_cons_succ]
    refine AnyL.takeAt 2 (.agg PG.toArray) rfl (by kernel_rfl) (by kernel_rfl) (by kernel_rfl) (by kernel_rfl) (fun _ _ _ h => h) rfl hS0 (fun W hW => exec_load_mid 92 (.tmp 5) rfl wr.heap.size 0 rfl PG _ hW.2 und_page rfl HLP) ?_
    try simp only [Act.put, List.setIfInBounds_toArray, List.set_cons_zero, List.set_cons_succ]
    refine AnyL.oneAt 3 rfl (by kernel_rfl) rfl ?_
    intro K hK
    go_simp
    refine (im_bytes W0).mono ?_
    rintro e W6 ⟨rfl, hW6⟩
    rw [← hW6] at hS6 hS6a h6z hown6 HS8
    have kW6 : Kb 0 W0 W6 := by rw [hW6]; exact kb_alloc _ _ _
    have HR6 : Hid (W6.rangeAt wr.heap.size 0 PG) := (fun j v hv => kW6.cell ((show W0.rangeAt wr.heap.size 0 PG from HRR) j v hv) : W6.rangeAt wr.heap.size 0 PG)
    clear hW6 kW6 HRR
    refine hK.out _ _ (fun _ => ⟨hS6, HR6⟩) ?_
    clear hK K
    try simp only [Act.put, List.setIfInBounds_toArray, List.set_cons_zero, List.set_cons_succ]
    refine AnyL.oneAt 4 rfl (by kernel_rfl) rfl ?_
    intro K hK
    go_simp
    refine hK.out _ _ (fun _ => ⟨hS6a _, fun j v hv => (kb_alloc 0 W6 _).cell ((show W6.rangeAt wr.heap.size 0 PG from HR6) j v hv)⟩) ?_
    clear hK K
    try simp only [Act.put, List.setIfInBounds_toArray, List.set_cons_zero, List.set_cons_succ]
    refine AnyL.oneAt 5 rfl (by kernel_rfl) rfl ?_
    intro K hK
    refine wp_append_lies _ (.tmp 16) (.tmp 19) 22 rfl (w.heap.size + 2) 26 i1 (.slice none 0 0) 1 24 Try.underlying22 HI1 hz0 hz1 hz2 rfl (by decide) (.slice pv i cv) i CL rfl (hown6.alloc _) ⟨W6.heap.size, 0, none⟩ 1 1 [.slice (some ⟨W0.heap.size, 0, none⟩) 64 64] rfl rfl (qr_cells W6 #[.slice (some ⟨W0.heap.size, 0, none⟩) 64 64] 26 [.slice (some ⟨W0.heap.size, 0, none⟩) 64 64] rfl) (by intro y hy; simp only [List.mem_cons, List.not_mem_nil, or_false] at hy; rcases hy with rfl; rfl) (by decide) (by unfold maxLen; omega) (by omega) (by rw [World.size_alloc]; omega) (W6.heap.size + 1) (World.size_alloc _ _) ?_
    intro g cap w8 hown1 hgrow1 hat hlt
    obtain ⟨⟨x1, x2⟩, hBI⟩ := (show ∀ (ob : Obj) (W8 : World) (g cap : Nat), _ from HS8) _ w8 g cap hown1 hgrow1 hat
    have hR8 : w8.rangeAt wr.heap.size 0 PG := fun j v hv => by
      have c := (kb_alloc 0 W6 (.cells #[.slice (some ⟨W0.heap.size, 0, none⟩) 64 64] 26)).cell ((show W6.rangeAt wr.heap.size 0 PG from HR6) j v hv)
      exact (World.cell?_of_block (hgrow1.block wr.heap.size (lt_of_cell' c) HNB)).trans c
    have HBI : Hid (BI w (pE P) (i + 1) (.slice (some ⟨g, 0, none⟩) (i + 1) cap) (w8.setCell ⟨w.heap.size + 1, 0, none⟩ (.slice (some ⟨g, 0, none⟩) (i + 1) cap))) := hBI
    clear HS8 hown1 hgrow1 hat hlt hBI hS6 hS6a hown6
    have x3 : w8.cell? ⟨w.heap.size + 1, 0, none⟩ = some (.slice pv i cv) ∧ w8.rangeAt wr.heap.size 0 PG := ⟨x1, hR8⟩
    refine hK.out _ _ (fun _ => x3) ?_
    clear hK K hR8
    try simp only [Act.put, List.setIfInBounds_toArray, List.set_cons_zero, List.set_cons_succ]
    refine AnyL.takeAt 6 (.pointer (some ⟨w.heap.size + 1, 0, none⟩)) rfl (by kernel_rfl) (by kernel_rfl) (by kernel_rfl) (by kernel_rfl) (fun _ _ _ h => h) rfl x3 (by intro W hW; first | go_simp | (obtain ⟨i0, i1⟩ := hW; go_simp)) ?_
    try simp only [Act.put, List.setIfInBounds_toArray, List.set_cons_zero, List.set_cons_succ]
    refine AnyL.oneAt 7 rfl (by kernel_rfl) rfl ?_
    intro K hK
    go_simp
    refine hK.out _ _ (fun h => absurd rfl h) ?_
    clear hK K x1 x2 x3
    try simp only [Act.put, List.setIfInBounds_toArray, List.set_cons_zero, List.set_cons_succ]
    refine AnyL.done (by kernel_rfl) ?_
    go_wp2_with fail
    go_roundw
    case rel => exact ⟨i + 1, _, by go_num, by omega, HBI⟩
    case measure => simp [intOf]; omega
end Go.Proofs.Ytaggciimacanbaa.Fo
