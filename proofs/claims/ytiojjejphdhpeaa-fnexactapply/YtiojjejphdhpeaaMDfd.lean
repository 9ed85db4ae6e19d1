import Derived.Great.Walk
import Derived.Test.YtiojjejphdhpeaaMDfc
namespace Go.Proofs.Ytiojjejphdhpeaa.Fo
open Go.ChangeShapes Go.WideShapes Go.ChangeAt Go.RowKit
set_option linter.unusedVariables false
set_option maxRecDepth 100000
set_option linter.unusedSimpArgs false
theorem own_low {w : World} {base base' : Nat} {e : TypeId} {size : Nat} {v : Value} {n : Nat} {xs : List Value} (h : w.ownsRow base e size v n xs) (hb : base' ≤ base) : w.ownsRow base' e size v n xs := by
  obtain ⟨h1, h2⟩ := h
  refine ⟨h1, ?_⟩
  rcases h2 with h2 | ⟨g, cap, cur, a1, a2, a3⟩
  · exact .inl h2
  · exact .inr ⟨g, cap, cur, a1, Nat.le_trans hb a2, a3⟩
set_option maxHeartbeats 16000000 in
theorem im_lose {w0 : World} {dv : Nat} {P : Nat → Nat → Int} {m nk : Nat} {Q : Nat → Ed} {vw vk : Value} {kk : Nat → Bool} (kp : Nat → Bool) (w : World) (h : Dr w0 dv P m Q vw w) (hm : m ≤ 200) (hk : RowV w vk nk (fun i => .bool (kk i))) (hnk : nk ≤ 1048576) (hkp : ∀ j, j < m → kp j = (decide (j < nk) && kk j)) :
    Calls Try.prog 87 #[.pointer (some ⟨dv, 0, none⟩), vk] w fun e w' => e = .returned (.tuple #[]) ∧ ∃ vw', Dr w0 dv P (kl Q kp m).length (rw8 (kl Q kp m)) vw' w' := by
  obtain ⟨pv, cv, rfl⟩ := h.shape
  obtain ⟨pk, ck, rfl, hk2⟩ := id hk
  have hnkI : (nk : Int) ≤ 1048576 := by omega
  have c0 := h.wt
  have HD : Hid (Dr w0 dv P m Q (.slice pv m cv) w) := h
  have HKK : Hid ((0 < nk → ∃ a : Addr, pk = some a ∧ nk ≤ ck ∧ ∀ i, i < nk → w.cell? (a.add i) = some (.bool (kk i))) ∧ ∀ j, j < m → kp j = (decide (j < nk) && kk j)) := (⟨hk2, hkp⟩ : _ ∧ _)
  obtain ⟨i1, z1, hi1, hz0, hz1, hz2, hz3⟩ := infoPd
  have HI1 : Hid (Try.prog.info? 140 = some i1) := hi1
  clear h hk hk2 hkp hnk hi1
  go_enter Try.func87, Try.ntmps87
  go_wp2_with fail
  clear c0
  go_loopw [4, 12] (fun s4 s12 wr => ∃ i : Nat, s12 = .int .i64 (i : Int) ∧ i ≤ m ∧ Hid (wr.ownsRow w.heap.size 140 65 s4 (kl Q kp i).length (pcl (rw8 (kl Q kp i)) (kl Q kp i).length) ∧ Kb 0 w wr)) (fun _ s12 _ => m - (intOf s12).toNat)
  case atStart => exact ⟨0, rfl, Nat.zero_le _, (⟨World.ownsRow_nil _ _ _ _, Kb.refl _ _⟩ : _ ∧ _)⟩
  case round =>
    obtain ⟨i, rfl, hil, HX⟩ := hrel
    obtain ⟨ho, hkb⟩ := (show _ ∧ _ from HX)
    clear HX
    obtain ⟨pl, cl, rfl⟩ := own_shape ho
    have hD := (show Dr w0 dv P m Q (.slice pv m cv) w from HD)
    have hX := hD.keep hkb
    have hln := kl_len Q kp i
    by_cases hi : i < m
    case neg =>
      obtain rfl : i = m := by omega
      have c0 := hX.wt
      have fz := hX.fz 16512
      have HE : Hid (Dr w0 dv P (kl Q kp i).length (rw8 (kl Q kp i)) (.slice pl (kl Q kp i).length cl) (wr.setCell ⟨dv, 16512, none⟩ (.slice pl (kl Q kp i).length cl))) := by
        obtain ⟨c, hc, hs⟩ := hX.bl
        have ge := hX.ge
        have hlt := hD.lt
        refine (⟨hX.kb.setCell _ (.inr (by exact ge)) _, ge, by rw [World.size_setCell]; exact hX.lt, ⟨_, set_known _ hc, by simp [hs]⟩, pgs_range.2 (fun k hk j hj => ?_), set_eq _ _ _ _ _ hX.wt, ?_⟩ : Dr w0 dv P (kl Q kp i).length (rw8 (kl Q kp i)) (.slice pl (kl Q kp i).length cl) (wr.setCell ⟨dv, 16512, none⟩ (.slice pl (kl Q kp i).length cl)))
        · rw [set_ne _ _ _ _ _ (by omega)]
          exact pgs_range.1 hX.rg k hk j hj
        · exact own_low (own_keep ho (fun g hg => Below.heap_setCell _ _ _ _ (show g ≠ dv by have := (ho.lt g hg).1; omega))) (by omega)
      obtain ⟨n8, hn8⟩ : ∃ n8, n8 = (kl Q kp i).length := ⟨_, rfl⟩
      rw [← hn8] at HE ⊢
      have HN8 : Hid (n8 = (kl Q kp i).length) := hn8
      clear hX hD HD HKK HI1 hz0 hz1 hz2 hz3 ho hkb hln hn8
      go_wp2_with fail
      first | go_ret | (refine Go.Great.bodyPost_end0 rfl rfl ?_)
      rw [← (show n8 = _ from HN8)]
      exact ⟨rfl, _, HE⟩
    have hiI : (i : Int) < (m : Int) := by omega
    obtain ⟨g, cap, eg, hgd, hgc, hcell⟩ := own_cells hX.ro (by omega)
    injection eg with eg1 _ eg3
    subst eg1
    subst eg3
    obtain ⟨CE, hCE⟩ : ∃ CE, CE = (Value.int .i64 (Q i).b :: pgl (Q i).A) := ⟨_, rfl⟩
    have hCl : CE.length = 65 := by rw [hCE, List.length_cons, pgl_len]
    have hCr : wr.rangeAt g (i * 65) CE := fun t v hv => by
      have ht : t < 65 := by have := (List.getElem?_eq_some_iff.1 hv).1; omega
      have h2 : (i + 1) * 65 ≤ m * 65 := Nat.mul_le_mul_right 65 hi
      rw [hcell (i * 65 + t) (by omega), pcl_at Q t ht m i hi, ← hCE]
      exact hv
    obtain ⟨W5, hW5⟩ : ∃ W5, W5 = (wr.alloc (.cells Z65 140)).setCells wr.heap.size 0 CE := ⟨_, rfl⟩
    obtain ⟨t5, k5, r5, z5⟩ := pend_new wr CE hCl W5 hW5
    obtain ⟨dR, hdR, hrow⟩ := und_pend
    have HRR : Hid (wr.rangeAt g (i * 65) CE ∧ (Try.prog.info? 140).map (·.size) = some CE.length ∧ (wr.alloc (.cells Z65 140)).there wr.heap.size 0 CE.toArray.size ∧ (Try.prog.info? 140).map (·.size) = some CE.toArray.size ∧ CE.toArray.all (·.oneCell') = true ∧ W5 = (wr.alloc (.cells Z65 140)).setCells wr.heap.size 0 CE ∧ Try.prog.underlying 140 = some dR ∧ dR.isRow = true ∧ W5.rangeAt wr.heap.size 0 CE) := (⟨hCr, by rw [hCl]; exact info_pend, t5, by rw [List.size_toArray, hCl]; exact info_pend, by rw [hCE]; exact all_oneCell_toArray (fun v hv => by rcases List.mem_cons.1 hv with rfl | hv; rfl; exact pgl_one _ v hv), hW5, hdR, hrow, r5⟩ : _ ∧ _)
    obtain ⟨hkk, hkp⟩ := (show _ ∧ _ from HKK)
    have hkpi := hkp i hi
    have HKC : Hid (i < nk → ∃ ak : Addr, pk = some ak ∧ W5.cell? (ak.add i) = some (.bool (kk i))) := (fun q => by
      obtain ⟨ak, e1, _, e3⟩ := hkk (by omega)
      exact ⟨ak, e1, (hkb.trans k5).cell (e3 i q)⟩ : i < nk → _)
    have k05 := hkb.trans k5
    have ho5 : W5.ownsRow w.heap.size 140 65 (.slice pl (kl Q kp i).length cl) (kl Q kp i).length (pcl (rw8 (kl Q kp i)) (kl Q kp i).length) := own_keep ho (fun g hg => k5.block g (Nat.zero_le _) (ho.lt g hg).2)
    have HNO : Hid (kp i = false → W5.ownsRow w.heap.size 140 65 (.slice pl (kl Q kp i).length cl) (kl Q kp (i + 1)).length (pcl (rw8 (kl Q kp (i + 1))) (kl Q kp (i + 1)).length) ∧ Kb 0 w W5) := (fun hn => by
      have e : kl Q kp (i + 1) = kl Q kp i := by rw [kl, if_neg (by rw [hn]; exact Bool.false_ne_true)]
      rw [e]
      exact ⟨ho5, k05⟩ : kp i = false → _)
    have HOW : Hid (W5.ownsRow w.heap.size 140 65 (.slice pl (kl Q kp i).length cl) (kl Q kp i).length (pcl (rw8 (kl Q kp i)) (kl Q kp i).length) ∧ Kb 0 w W5 ∧ w.heap.size ≤ W5.heap.size) := (⟨ho5, k05, k05.size⟩ : _ ∧ _)
    have HYES : Hid (kp i = true → (kl Q kp (i + 1)).length = (kl Q kp i).length + 1 ∧ pcl (rw8 (kl Q kp (i + 1))) (kl Q kp (i + 1)).length = pcl (rw8 (kl Q kp i)) (kl Q kp i).length ++ CE) := (fun hy => by
      have e : kl Q kp (i + 1) = kl Q kp i ++ [Q i] := by rw [kl, if_pos hy]
      rw [e]
      exact ⟨by rw [List.length_append]; rfl, by rw [hCE]; exact pcl_snoc _ _⟩ : kp i = true → _)
    have hbs : ∀ W : World, (Instr.buildSlice 122 1 #[(0, .agg CE.toArray)]).run Try.prog W = .ok (.slice (some ⟨W.heap.size, 0, none⟩) 1 1) (W.alloc (.cells CE.toArray 140)) := by rw [hCE]; exact run_spd _ _
    have HBS : Hid (∀ W : World, (Instr.buildSlice 122 1 #[(0, .agg CE.toArray)]).run Try.prog W = .ok (.slice (some ⟨W.heap.size, 0, none⟩) 1 1) (W.alloc (.cells CE.toArray 140))) := hbs
    have HCL : Hid (CE.length = 65 ∧ ∀ u ∈ CE, u.oneCell' = true) := (⟨hCl, fun u hu => by rw [hCE] at hu; rcases List.mem_cons.1 hu with rfl | hu; rfl; exact pgl_one _ u hu⟩ : _ ∧ _)
    obtain ⟨n8, hn8⟩ : ∃ n8, n8 = (kl Q kp i).length := ⟨_, rfl⟩
    have hn9 : n8 ≤ 200 := by omega
    rw [← hn8] at HNO HOW HYES ⊢
    clear hX hD hgd hgc hcell hCE hCl hCr hW5 t5 k5 r5 z5 hdR hrow hkk hkp ho hkb hln ho5 k05 hbs HKK HD hn8
    go_upto_region 4 with (first | (refine wpList_load_mid (by rfl) 140 (.tmp 15) (by rfl) g (i * 65) (by first | rfl | simp [Act.eval, Addr.add]) CE dR (show _ ∧ _ from HRR).1 (show _ ∧ _ ∧ _ ∧ _ ∧ _ ∧ _ ∧ _ ∧ _ from HRR).2.2.2.2.2.2.1 (show _ ∧ _ ∧ _ ∧ _ ∧ _ ∧ _ ∧ _ ∧ _ ∧ _ from HRR).2.2.2.2.2.2.2.1 (show _ ∧ _ ∧ _ from HRR).2.1 ?_) | (refine wpList_store_mid (by rfl) 140 (.tmp 6) (.tmp 16) (by rfl) wr.heap.size 0 CE.toArray (by rfl) (by rfl) (show _ ∧ _ ∧ _ ∧ _ from HRR).2.2.1 (show _ ∧ _ ∧ _ ∧ _ ∧ _ from HRR).2.2.2.1 (show _ ∧ _ ∧ _ ∧ _ ∧ _ ∧ _ from HRR).2.2.2.2.1 ?_))
    generalize hwg : World.setCells _ _ _ _ = wg
    have hwe : wg = W5 := hwg.symm.trans (show _ ∧ _ ∧ _ ∧ _ ∧ _ ∧ _ ∧ _ from HRR).2.2.2.2.2.1.symm
    rw [hwe]
    clear hwg hwe
    by_cases hin : i < nk
    case neg =>
      have hno : kp i = false := by rw [hkpi]; simp [hin]
      have HN := (show kp i = false → _ from HNO) hno
      have HN : Hid (W5.ownsRow w.heap.size 140 65 (.slice pl n8 cl) (kl Q kp (i + 1)).length (pcl (rw8 (kl Q kp (i + 1))) (kl Q kp (i + 1)).length) ∧ Kb 0 w W5) := HN
      have hin' : ¬ (i : Int) < (nk : Int) := by omega
      clear HNO HYES HOW HKC hkpi hno hin HRR HBS HCL HI1 hz0 hz1 hz2 hz3 hn9
      go_wp2_with fail
      go_roundw
      case rel => exact ⟨i + 1, by go_num, by omega, HN⟩
      case measure => simp [intOf]; omega
    obtain ⟨ak, rfl, hck⟩ := (show i < nk → _ from HKC) hin
    have hin' : (i : Int) < (nk : Int) := by omega
    cases hki : kk i with
    | false =>
      rw [hki] at hck
      have hno : kp i = false := by rw [hkpi, hki]; simp
      have HN := (show kp i = false → _ from HNO) hno
      have HN : Hid (W5.ownsRow w.heap.size 140 65 (.slice pl n8 cl) (kl Q kp (i + 1)).length (pcl (rw8 (kl Q kp (i + 1))) (kl Q kp (i + 1)).length) ∧ Kb 0 w W5) := HN
      clear HNO HYES HOW HKC hkpi hno hin hki HRR HBS HCL HI1 hz0 hz1 hz2 hz3 hn9
      go_wp2_with fail
      go_roundw
      case rel => exact ⟨i + 1, by go_num, by omega, HN⟩
      case measure => simp [intOf]; omega
    | true =>
      rw [hki] at hck
      have hyes : kp i = true := by rw [hkpi, hki]; simp [hin]
      have hY := (show kp i = true → _ from HYES) hyes
      obtain ⟨PC, hPC⟩ : ∃ PC, PC = pcl (rw8 (kl Q kp i)) n8 := ⟨_, rfl⟩
      rw [← hPC] at hY HOW
      have HY : Hid ((kl Q kp (i + 1)).length = n8 + 1 ∧ pcl (rw8 (kl Q kp (i + 1))) (kl Q kp (i + 1)).length = PC ++ CE) := hY
      clear HNO HYES HKC hkpi hyes hin hki hY hPC
      go_upto_region 5 with fail
      clear hck
      go_wp2_with (first | (refine wpList_load_mid (by rfl) 140 (.tmp 6) (by rfl) wr.heap.size 0 (by rfl) CE dR (show _ ∧ _ ∧ _ ∧ _ ∧ _ ∧ _ ∧ _ ∧ _ ∧ _ from HRR).2.2.2.2.2.2.2.2 (show _ ∧ _ ∧ _ ∧ _ ∧ _ ∧ _ ∧ _ ∧ _ from HRR).2.2.2.2.2.2.1 (show _ ∧ _ ∧ _ ∧ _ ∧ _ ∧ _ ∧ _ ∧ _ ∧ _ from HRR).2.2.2.2.2.2.2.1 (show _ ∧ _ ∧ _ from HRR).2.1 ?_) | (refine Go.Great.wpList_runTo (by rfl) (some 29) (by rfl) (.slice (some ⟨W5.heap.size, 0, none⟩) 1 1) (W5.alloc (.cells CE.toArray 140)) (exec_buildS 122 1 _ _ (by rfl) (by first | rfl | (simp only [List.map_toArray, List.map_cons, List.map_nil]; rfl)) ((show ∀ W : World, _ from HBS) W5)) ?_) | (refine wpList_append_lies _ (by rfl) (.tmp 27) (.tmp 29) 122 (by rfl) w.heap.size 140 i1 z1 65 72 Try.underlying122 HI1 hz0 hz1 hz2 hz3 (by decide) (.slice pl n8 cl) n8 PC (by rfl) ((show _ ∧ _ from HOW).1.alloc _) ⟨W5.heap.size, 0, none⟩ 1 1 CE (by rfl) ((show _ ∧ _ from HCL).1.trans (by rfl)) (qr_cells W5 CE.toArray 140 CE (by simp)) (show _ ∧ _ from HCL).2 (by decide) (by unfold maxLen; omega) (by omega) (by rw [World.size_alloc]; have := (show _ ∧ _ ∧ _ from HOW).2.2; omega) (W5.heap.size + 1) (World.size_alloc _ _) ?_; intro g' cap' w8 hown1 hgrow1 hat hlt; have HN : Hid (w8.ownsRow w.heap.size 140 65 (.slice (some ⟨g', 0, none⟩) (n8 + 1) cap') (kl Q kp (i + 1)).length (pcl (rw8 (kl Q kp (i + 1))) (kl Q kp (i + 1)).length) ∧ Kb 0 w w8) := (⟨by rw [(show _ ∧ _ from HY).2, (show _ ∧ _ from HY).1]; exact hown1, ⟨by rw [hgrow1.os]; exact (show _ ∧ _ ∧ _ from HOW).2.1.os, by rw [hgrow1.output]; exact (show _ ∧ _ ∧ _ from HOW).2.1.output, by have := hgrow1.size; rw [World.size_alloc] at this; have := (show _ ∧ _ ∧ _ from HOW).2.2; omega, fun q h1 h2 => by have := (show _ ∧ _ ∧ _ from HOW).2.2; exact ((hgrow1.block q (by rw [World.size_alloc]; omega) (fun e => by have := ((show _ ∧ _ from HOW).1.lt q e.symm).1; omega)).trans ((kb_alloc 0 W5 _).block q (Nat.zero_le _) (by omega))).trans ((show _ ∧ _ ∧ _ from HOW).2.1.block q h1 h2)⟩⟩ : _ ∧ _); clear hown1 hgrow1 hat hlt))
      go_roundw
      case rel => exact ⟨i + 1, by go_num, by omega, HN⟩
      case measure => simp [intOf]; omega
end Go.Proofs.Ytiojjejphdhpeaa.Fo
