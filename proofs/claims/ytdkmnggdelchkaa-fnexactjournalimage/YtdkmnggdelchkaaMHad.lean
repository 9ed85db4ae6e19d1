import Derived.Test.YtdkmnggdelchkaaMHac
import Derived.Test.YtdkmnggdelchkaaMReg
namespace Go.Proofs.Ytdkmnggdelchkaa.Fo
open Go.ChangeShapes Go.WideShapes Go.ChangeAt Go.RowKit
set_option linter.unusedVariables false
set_option maxRecDepth 100000
/-- two cells written in a row -/
def s2 (W : World) (B : Nat) (t : Int) (v : Value) : World := (W.setCell ⟨B, 0, none⟩ (.int .i64 t)).setCell ⟨B, 1, none⟩ v
theorem s2_far {k : Nat} (W : World) (B : Nat) (t : Int) (v : Value) (h : k ≠ B) : (s2 W B t v).heap[k]? = W.heap[k]? := by
  unfold s2
  rw [Below.heap_setCell _ _ _ _ h, Below.heap_setCell _ _ _ _ h]
theorem s2_size (W : World) (B : Nat) (t : Int) (v : Value) : (s2 W B t v).heap.size = W.heap.size := by
  unfold s2
  simp
theorem s2_known {W : World} {B : Nat} {u0 u1 : Value} {ty : TypeId} (h : W.heap[B]? = some (.cells #[u0, u1] ty (0, 0))) (t : Int) (v : Value) : (s2 W B t v).heap[B]? = some (.cells #[.int .i64 t, v] ty (0, 0)) := by
  unfold s2
  have h0 : (W.setCell ⟨B, 0, none⟩ (.int .i64 t)).heap[B]? = some (.cells #[.int .i64 t, u1] ty (0, 0)) := set_known _ h
  exact set_known _ h0
theorem infoVp : (Try.prog.info? 50).map (fun i => (i.zero, i.size, i.bytes)) = some (some (.agg #[.int .i64 0, .int .i64 0, .string ⟨#[]⟩, .int .i64 0]), 4, 40) := by kernel_rfl
theorem infoTp : (Try.prog.info? 65).map (fun i => (i.zero, i.size, i.bytes)) = some (some (.agg #[.int .i64 0, .slice none 0 0]), 2, 32) := by kernel_rfl
set_option maxHeartbeats 16000000 in
theorem im_thing {B : Nat} {pn : Option Addr} {A p : Addr} {n cn nb mb : Nat} {o : List Int} {vo : Value} {f : Td} (w0 w : World) (h : NS B pn A n cn nb mb o vo w) (k0 : Kb 0 w0 w) (hB : B ≤ w.heap.size) (g1 : w0.heap.size ≤ nb) (g2 : w0.heap.size ≤ mb) (g3 : w0.heap.size ≤ B) (ht : ThC 0 w0 p f) (hv : ∀ j, j < f.c → (f.C j).k = 4 → 0 ≤ (f.C j).r ∧ (f.C j).r < (n : Int)) (hn : n ≤ 1048576) (hc : f.c ≤ 1048576) :
    Calls Try.prog 89 #[.pointer (some ⟨nb, 0, none⟩), .pointer (some p)] w fun e w' => ∃ vo' vx, e = .returned (.agg #[.int .i64 f.t, vx]) ∧ NS B pn A n cn nb mb (exts o f.C f.c) vo' w' ∧ w'.ownsRow w.heap.size 50 4 vx f.c (vcl (exts o f.C f.c) f.C f.c) ∧ Fo4 B nb mb w w' := by
  obtain ⟨l1, l2, l3, l4⟩ := h.lt
  obtain ⟨vc, ⟨y0, y1⟩, ⟨pc, cc, rfl, hvc⟩⟩ := ht
  have hcI : (f.c : Int) ≤ 1048576 := by omega
  obtain ⟨w2, hw2⟩ : ∃ w2, w2 = (w.alloc (.cells #[.int .i64 0, .slice none 0 0] 65)).alloc (.cells #[.int .i64 f.t, .slice none 0 0] 65) := ⟨_, rfl⟩
  have k2 : Kb 0 w w2 := by rw [hw2]; exact kb_alloc2 _ _ _ _
  have z2 : w2.heap.size = w.heap.size + 2 := by rw [hw2]; simp
  have b0 : w2.heap[w.heap.size]? = some (.cells #[.int .i64 0, .slice none 0 0] 65 (0, 0)) := by
    rw [hw2, (kb_alloc 0 _ _).block _ (Nat.zero_le _) (by rw [World.size_alloc]; omega)]
    exact alloc_new _ _ _
  have b1 : w2.heap[w.heap.size + 1]? = some (.cells #[.int .i64 f.t, .slice none 0 0] 65 (0, 0)) := by
    have e : (w.alloc (.cells #[.int .i64 0, .slice none 0 0] 65)).heap.size = w.heap.size + 1 := World.size_alloc _ _
    rw [hw2, ← e]
    exact alloc_new _ _ _
  have HT0 : Hid (TS B pn A n cn nb mb o f.t f.C w w.heap.size 0 vo (.slice none 0 0) w2) := (⟨h.kb k2, Fo4.of_kb k2, b0, b1, World.ownsRow_nil _ _ _ _, by omega⟩ : TS B pn A n cn nb mb o f.t f.C w w.heap.size 0 vo (.slice none 0 0) w2)
  have a0 : w.cell? p = some (.int .i64 f.t) := k0.cell y0
  have a0' : ∀ ob, (w.alloc ob).cell? p = some (.int .i64 f.t) := fun ob => (k0.trans (kb_alloc 0 w ob)).cell y0
  have a1 : w2.cell? ⟨p.block, p.off + 1, none⟩ = some (.slice pc f.c cc) := (k0.trans k2).cell y1
  have HW2 : Hid (w2 = (w.alloc (.cells #[.int .i64 0, .slice none 0 0] 65)).alloc (.cells #[.int .i64 f.t, .slice none 0 0] 65)) := hw2
  have HVC : Hid ((0 < f.c → ∃ a : Addr, pc = some a ∧ f.c ≤ cc ∧ 0 ≤ a.block ∧ ∀ i, i < f.c → ValC 0 w0 (a.add (i * 4)) (f.C i)) ∧ ∀ j, j < f.c → (f.C j).k = 4 → 0 ≤ (f.C j).r ∧ (f.C j).r < (n : Int)) := (⟨hvc, hv⟩ : _ ∧ _)
  have HK : Hid (Kb 0 w0 w ∧ w0.heap.size ≤ nb ∧ w0.heap.size ≤ mb ∧ w0.heap.size ≤ B ∧ nb < w.heap.size ∧ mb < w.heap.size ∧ B ≤ w.heap.size ∧ n ≤ 1048576) := (⟨k0, g1, g2, g3, l1, l2, hB, hn⟩ : _ ∧ _)
  clear h k0 hB g1 g2 g3 y0 y1 hvc hv hn hc l1 l2 l3 l4 k2 z2 b0 b1 hw2
  go_enter Try.func89, Try.ntmps89
  go_upto_region 2 with fail
  rw [← (show w2 = _ from HW2)]
  clear HW2 a0 a0'
  go_wp2_with fail
  clear a1
  go_loopw [18] (fun s18 wr => ∃ (j : Nat) (vo vx : Value), s18 = .int .i64 (j : Int) ∧ j ≤ f.c ∧ Hid (TS B pn A n cn nb mb o f.t f.C w w.heap.size j vo vx wr)) (fun s18 _ => f.c - (intOf s18).toNat)
  case atStart => exact ⟨0, _, _, rfl, Nat.zero_le _, HT0⟩
  case round =>
    clear HT0
    obtain ⟨j, vo, vx, rfl, hj0, HX⟩ := hrel
    have hX := (show TS B pn A n cn nb mb o f.t f.C w w.heap.size j vo vx wr from HX)
    obtain ⟨k0, g1, g2, g3, l1, l2, hB, hn⟩ := (show Kb 0 w0 w ∧ w0.heap.size ≤ nb ∧ w0.heap.size ≤ mb ∧ w0.heap.size ≤ B ∧ nb < w.heap.size ∧ mb < w.heap.size ∧ B ≤ w.heap.size ∧ n ≤ 1048576 from HK)
    obtain ⟨px, cx, rfl⟩ := own_shape hX.xr
    rcases Nat.lt_or_ge j f.c with hj | hj
    case inr =>
      obtain rfl : j = f.c := by omega
      have hI : ¬ (f.c : Int) < (f.c : Int) := by omega
      have c0 : wr.cell? ⟨w.heap.size + 1, 0, none⟩ = some (.int .i64 f.t) := cell_of hX.xu rfl
      have c1 : wr.cell? ⟨w.heap.size + 1, 1, none⟩ = some (.slice px f.c cx) := cell_of hX.xu rfl
      have q0 : wr.cell? ⟨w.heap.size, 0, none⟩ = some (.int .i64 0) := cell_of hX.rs rfl
      have q1 : wr.cell? ⟨w.heap.size, 1, none⟩ = some (.slice none 0 0) := cell_of hX.rs rfl
      have qz : ∀ j, wr.frozen? ⟨w.heap.size, j, none⟩ = false := fun j => frozen_of hX.rs
      obtain ⟨WF, hWF⟩ : ∃ WF, WF = s2 wr w.heap.size f.t (.slice px f.c cx) := ⟨_, rfl⟩
      have bF := s2_known hX.rs f.t (.slice px f.c cx)
      rw [← hWF] at bF
      have e0 : WF.cell? ⟨w.heap.size, 0, none⟩ = some (.int .i64 f.t) := cell_of bF rfl
      have e1 : WF.cell? ⟨w.heap.size, 1, none⟩ = some (.slice px f.c cx) := cell_of bF rfl
      have HE : Hid (NS B pn A n cn nb mb (exts o f.C f.c) vo WF ∧ WF.ownsRow w.heap.size 50 4 (.slice px f.c cx) f.c (vcl (exts o f.C f.c) f.C f.c) ∧ Fo4 B nb mb w WF) := (by
        have hb : ∀ g, g ≠ w.heap.size → WF.heap[g]? = wr.heap[g]? := fun g hg => by rw [hWF]; exact s2_far _ _ _ _ hg
        have hzz : WF.heap.size = wr.heap.size := by rw [hWF]; exact s2_size _ _ _ _
        refine ⟨hX.ns.keep (fun g hg e => hb g ?_), own_base (own_keep hX.xr (fun g e => hb g (by have := (hX.xr.lt g e).1; omega))) (by omega), ⟨by rw [hWF]; exact hX.fo.os, by rw [hWF]; exact hX.fo.output, by have := hX.fo.size; omega, fun k hk h1 h2 h3 => (hb k (by omega)).trans (hX.fo.block k hk h1 h2 h3)⟩⟩
        rcases e with rfl | rfl | e
        · omega
        · omega
        · exact own_ty hX.ns.oo hX.rs (by decide) e : _ ∧ _)
      unfold s2 at hWF
      have HWF : Hid (WF = (wr.setCell ⟨w.heap.size, 0, none⟩ (.int .i64 f.t)).setCell ⟨w.heap.size, 1, none⟩ (.slice px f.c cx)) := hWF
      clear hX HX HK HVC k0 g1 g2 g3 l1 l2 hB hn hj bF hWF
      go_wp2_with fail
      rw [← (show WF = _ from HWF)]
      clear HWF
      refine bodyPost_ret (by simp [results, Try.results89, go_sem, e0, e1]; rfl) rfl ?_
      exact ⟨_, _, rfl, HE⟩
    have hI : (j : Int) < (f.c : Int) := by omega
    obtain ⟨hvc, hv⟩ := (show (0 < f.c → ∃ a : Addr, pc = some a ∧ f.c ≤ cc ∧ 0 ≤ a.block ∧ ∀ i, i < f.c → ValC 0 w0 (a.add (i * 4)) (f.C i)) ∧ ∀ j, j < f.c → (f.C j).k = 4 → 0 ≤ (f.C j).r ∧ (f.C j).r < (n : Int) from HVC)
    obtain ⟨AC, rfl, hcc, -, hrc⟩ := hvc (by omega)
    have kw : Kb 0 w0 wr := hX.fo.kb k0 g1 g2 g3
    obtain ⟨z0, z1, z2, z3⟩ := hrc j hj
    replace z0 := kw.cell z0
    replace z1 := kw.cell z1
    replace z2 := kw.cell z2
    replace z3 := kw.cell z3
    obtain ⟨v, hvd⟩ : ∃ v, v = f.C j := ⟨_, rfl⟩
    have hvl : v.k = 4 → 0 ≤ v.r ∧ v.r < (n : Int) := by rw [hvd]; exact hv j hj
    rw [← hvd] at z0 z1 z2 z3
    obtain ⟨W5, hW5⟩ : ∃ W5, W5 = wr.alloc (.cells #[.int .i64 v.k, .int .i64 v.m, .string v.x, .int .i64 v.r] 50) := ⟨_, rfl⟩
    have k5 : Kb 0 wr W5 := by rw [hW5]; exact kb_alloc _ _ _
    have s5z : W5.heap.size = wr.heap.size + 1 := by rw [hW5]; simp
    have b5 : W5.heap[wr.heap.size]? = some (.cells #[.int .i64 v.k, .int .i64 v.m, .string v.x, .int .i64 v.r] 50 (0, 0)) := by rw [hW5]; exact alloc_new _ _ _
    have u5 := (k5.block (w.heap.size + 1) (Nat.zero_le _) (by have := hX.sz; omega)).trans hX.xu
    have hsz := hX.sz
    have d0 : W5.cell? ⟨wr.heap.size, 0, none⟩ = some (.int .i64 v.k) := cell_of b5 rfl
    have d1 : W5.cell? ⟨wr.heap.size, 1, none⟩ = some (.int .i64 v.m) := cell_of b5 rfl
    have d2 : W5.cell? ⟨wr.heap.size, 2, none⟩ = some (.string v.x) := cell_of b5 rfl
    have d3 : W5.cell? ⟨wr.heap.size, 3, none⟩ = some (.int .i64 v.r) := cell_of b5 rfl
    have d4 : W5.cell? ⟨w.heap.size + 1, 1, none⟩ = some (.slice px j cx) := cell_of u5 rfl
    obtain ⟨oe, hoe⟩ : ∃ oe, oe = ext (exts o f.C j) v := ⟨_, rfl⟩
    obtain ⟨rv, hrv⟩ : ∃ rv, rv = rnm oe v := ⟨_, rfl⟩
    obtain ⟨VC, hVC⟩ : ∃ VC, VC = vcl (exts o f.C j) f.C j := ⟨_, rfl⟩
    have HM : Hid (∀ W, Kb 0 W5 W → Calls Try.prog 88 #[.pointer (some ⟨nb, 0, none⟩), .agg #[.int .i64 v.k, .int .i64 v.m, .string v.x, .int .i64 v.r]] W fun e w' => ∃ vo', e = .returned (.agg #[.int .i64 rv.k, .int .i64 rv.m, .string rv.x, .int .i64 rv.r]) ∧ NS B pn A n cn nb mb oe vo' w' ∧ Fo4 B nb mb W5 w') := (fun W k => by
      have hns := (hX.ns.kb k5).kb k
      refine (im_met (v := v) W hns (by have := k.size; omega) hvl hn).mono ?_
      rintro e w' ⟨vo', he, h1, h2⟩
      rw [← hoe] at he h1
      rw [← hrv] at he
      exact ⟨vo', he, h1, (Fo4.of_kb k).trans (Fo4.of3 hns h2)⟩ : ∀ W, _)
    have HST : Hid (∀ (w6 : World) (vo' : Value), NS B pn A n cn nb mb oe vo' w6 → Fo4 B nb mb W5 w6 → ((w6.cell? ⟨w.heap.size + 1, 1, none⟩ = some (.slice px j cx) ∧ w6.cell? ⟨wr.heap.size, 0, none⟩ = some (.int .i64 v.k) ∧ w6.cell? ⟨wr.heap.size, 1, none⟩ = some (.int .i64 v.m) ∧ w6.cell? ⟨wr.heap.size, 2, none⟩ = some (.string v.x) ∧ w6.cell? ⟨wr.heap.size, 3, none⟩ = some (.int .i64 v.r)) ∧ (∀ ob, ((w6.alloc ob).cell? ⟨w.heap.size + 1, 1, none⟩ = some (.slice px j cx) ∧ (w6.alloc ob).cell? ⟨wr.heap.size, 0, none⟩ = some (.int .i64 v.k) ∧ (w6.alloc ob).cell? ⟨wr.heap.size, 1, none⟩ = some (.int .i64 v.m) ∧ (w6.alloc ob).cell? ⟨wr.heap.size, 2, none⟩ = some (.string v.x) ∧ (w6.alloc ob).cell? ⟨wr.heap.size, 3, none⟩ = some (.int .i64 v.r))) ∧ w.heap.size + 2 ≤ w6.heap.size ∧ w6.ownsRow (w.heap.size + 2) 50 4 (.slice px j cx) j VC) ∧ ∀ (ob : Obj) (v' : Value) (w8 : World), w8.ownsRow (w.heap.size + 2) 50 4 v' (j + 1) (VC ++ [.int .i64 rv.k, .int .i64 rv.m, .string rv.x, .int .i64 rv.r]) → (w6.alloc ob).grownBy w8 (Value.slice px j cx).ownBlock → (w8.cell? ⟨w.heap.size + 1, 1, none⟩ = some (.slice px j cx) ∧ w8.cell? ⟨wr.heap.size, 0, none⟩ = some (.int .i64 v.k) ∧ w8.cell? ⟨wr.heap.size, 1, none⟩ = some (.int .i64 v.m) ∧ w8.cell? ⟨wr.heap.size, 2, none⟩ = some (.string v.x) ∧ w8.cell? ⟨wr.heap.size, 3, none⟩ = some (.int .i64 v.r)) ∧ (w8.cell? ⟨w.heap.size + 1, 1, none⟩ = some (.slice px j cx) ∧ ∀ i, w8.frozen? ⟨w.heap.size + 1, i, none⟩ = false) ∧ TS B pn A n cn nb mb o f.t f.C w w.heap.size (j + 1) vo' v' (w8.setCell ⟨w.heap.size + 1, 1, none⟩ v')) := (fun w6 vo' hns hf => by
      have f6 : Fo4 B nb mb wr w6 := (Fo4.of_kb k5).trans hf
      have u6 := (hf.cells u5 (by decide) (by omega) (by omega)).trans u5
      have v6 := (hf.cells b5 (by decide) (by omega) (by omega)).trans b5
      have x6 : w6.ownsRow (w.heap.size + 2) 50 4 (.slice px j cx) j (vcl (exts o f.C j) f.C j) := f6.own hX.xr (by decide) (by omega) (by omega)
      have cel : ∀ W' : World, W'.heap[w.heap.size + 1]? = w6.heap[w.heap.size + 1]? → W'.heap[wr.heap.size]? = w6.heap[wr.heap.size]? → (W'.cell? ⟨w.heap.size + 1, 1, none⟩ = some (.slice px j cx) ∧ W'.cell? ⟨wr.heap.size, 0, none⟩ = some (.int .i64 v.k) ∧ W'.cell? ⟨wr.heap.size, 1, none⟩ = some (.int .i64 v.m) ∧ W'.cell? ⟨wr.heap.size, 2, none⟩ = some (.string v.x) ∧ W'.cell? ⟨wr.heap.size, 3, none⟩ = some (.int .i64 v.r)) := fun W' e1 e2 => ⟨cell_of (e1.trans u6) rfl, cell_of (e2.trans v6) rfl, cell_of (e2.trans v6) rfl, cell_of (e2.trans v6) rfl, cell_of (e2.trans v6) rfl⟩
      have h6z := hf.size
      refine ⟨⟨cel w6 rfl rfl, fun ob => cel _ ((kb_alloc 0 w6 ob).block _ (Nat.zero_le _) (by omega)) ((kb_alloc 0 w6 ob).block _ (Nat.zero_le _) (by omega)), by omega, by rw [hVC]; exact x6⟩, fun ob v' w8 ho8 hg8 => ?_⟩
      have h8 : ∀ g, g < w6.heap.size → some g ≠ (Value.slice px j cx).ownBlock → w8.heap[g]? = w6.heap[g]? := fun g hg' hne => (hg8.block g (by rw [World.size_alloc]; omega) hne).trans ((kb_alloc 0 w6 ob).block g (Nat.zero_le _) hg')
      refine ⟨cel w8 (h8 _ (by omega) (fun e => own_ty x6 u6 (by decide) e.symm rfl)) (h8 _ (by omega) (fun e => by have := (hX.xr.lt _ e.symm).2; omega)), ?_⟩
      rw [hoe, hvd] at hns
      rw [hVC, hrv, hoe, hvd] at ho8
      exact hX.push k5 l1 l2 (Nat.le_refl _) hns hf ho8 hg8 : ∀ (w6 : World) (vo' : Value), _)
    obtain ⟨i0, hi0, hz0, hz1, hz2⟩ := info_parts infoVp
    have HI0 : Hid (Try.prog.info? 50 = some i0) := hi0
    have h1c : ∀ y ∈ ([.int .i64 rv.k, .int .i64 rv.m, .string rv.x, .int .i64 rv.r] : List Value), y.oneCell' = true := by
      intro y hy
      simp only [List.mem_cons, List.not_mem_nil, or_false] at hy
      rcases hy with rfl | rfl | rfl | rfl <;> rfl
    have HW5 : Hid (W5 = wr.alloc (.cells #[.int .i64 v.k, .int .i64 v.m, .string v.x, .int .i64 v.r] 50)) := hW5
    have hqc : ∀ w6 : World, ∀ (k : Nat) (y : Value), ([.int .i64 rv.k, .int .i64 rv.m, .string rv.x, .int .i64 rv.r] : List Value)[k]? = some y → (w6.alloc (.cells #[.int .i64 rv.k, .int .i64 rv.m, .string rv.x, .int .i64 rv.r] 50)).cell? ((⟨w6.heap.size, 0, none⟩ : Addr).add k) = some y := fun w6 => qr_cells w6 #[.int .i64 rv.k, .int .i64 rv.m, .string rv.x, .int .i64 rv.r] 50 [.int .i64 rv.k, .int .i64 rv.m, .string rv.x, .int .i64 rv.r] rfl
    have HQC : Hid (∀ w6 : World, _) := hqc
    have hjc : j < 1048576 := by omega
    clear hX HX HVC hvc hv hrc kw k5 s5z b5 u5 hsz hvl hvd hoe hrv hVC k0 g1 g2 g3 l1 l2 hB hn hW5 hi0 hcc hqc hj0
    go_upto_region 5 with fail
    rw [← (show W5 = _ from HW5)]
    clear HW5 z0 z1 z2 z3
    refine AnyL.region (S := fun W' => (W'.cell? ⟨w.heap.size + 1, 1, none⟩ = some (.slice px j cx) ∧ W'.cell? ⟨wr.heap.size, 0, none⟩ = some (.int .i64 v.k) ∧ W'.cell? ⟨wr.heap.size, 1, none⟩ = some (.int .i64 v.m) ∧ W'.cell? ⟨wr.heap.size, 2, none⟩ = some (.string v.x) ∧ W'.cell? ⟨wr.heap.size, 3, none⟩ = some (.int .i64 v.r))) (z := 8) (by kernel_rfl) ?_
    have hS0 : (fun W' : World => (W'.cell? ⟨w.heap.size + 1, 1, none⟩ = some (.slice px j cx) ∧ W'.cell? ⟨wr.heap.size, 0, none⟩ = some (.int .i64 v.k) ∧ W'.cell? ⟨wr.heap.size, 1, none⟩ = some (.int .i64 v.m) ∧ W'.cell? ⟨wr.heap.size, 2, none⟩ = some (.string v.x) ∧ W'.cell? ⟨wr.heap.size, 3, none⟩ = some (.int .i64 v.r))) W5.drew := (⟨d4, d0, d1, d2, d3⟩ : _ ∧ _)
    clear d0 d1 d2 d3 d4
    refine AnyL.takeAt 0 (.pointer (some ⟨w.heap.size + 1, 1, none⟩)) rfl (by kernel_rfl) (by kernel_rfl) (by kernel_rfl) (by kernel_rfl) (fun _ _ _ h => h) rfl hS0 (by intro W hW; first | go_simp | (obtain ⟨i0, i1, i2, i3, i4⟩ := hW; go_simp)) ?_
    try simp only [Act.put, List.setIfInBounds_toArray, List.set_cons_zero, List.set_cons_succ]
    refine AnyL.takeAt 1 (.slice px j cx) rfl (by kernel_rfl) (by kernel_rfl) (by kernel_rfl) (by kernel_rfl) (fun _ _ _ h => h) rfl hS0 (by intro W hW; first | go_simp | (obtain ⟨i0, i1, i2, i3, i4⟩ := hW; go_simp)) ?_
    try simp only [Act.put, List.setIfInBounds_toArray, List.set_cons_zero, List.set_cons_succ]
    refine AnyL.takeAt 2 (.pointer (some ⟨nb, 0, none⟩)) rfl (by kernel_rfl) (by kernel_rfl) (by kernel_rfl) (by kernel_rfl) (fun _ _ _ h => h) rfl hS0 (by intro W hW; first | go_simp | (obtain ⟨i0, i1, i2, i3, i4⟩ := hW; go_simp)) ?_
    try simp only [Act.put, List.setIfInBounds_toArray, List.set_cons_zero, List.set_cons_succ]
    refine AnyL.takeAt 3 (.agg #[.int .i64 v.k, .int .i64 v.m, .string v.x, .int .i64 v.r]) rfl (by kernel_rfl) (by kernel_rfl) (by kernel_rfl) (by kernel_rfl) (fun _ _ _ h => h) rfl hS0 (by intro W hW; first | go_simp | (obtain ⟨i0, i1, i2, i3, i4⟩ := hW; go_simp)) ?_
    try simp only [Act.put, List.setIfInBounds_toArray, List.set_cons_zero, List.set_cons_succ]
    refine AnyL.oneAt 4 rfl (by kernel_rfl) rfl ?_
    intro K hK
    go_simp
    refine ((show ∀ W, Kb 0 W5 W → _ from HM) _ (by exact Kb.drewN (Kb.refl _ _) 1)).mono ?_
    rintro e w6 ⟨vo', rfl, hns, hf⟩
    obtain ⟨⟨hS6, hS6a, h6z, hown6⟩, HS8⟩ := (show ∀ (w6 : World) (vo' : Value), NS B pn A n cn nb mb oe vo' w6 → Fo4 B nb mb W5 w6 → _ from HST) w6 vo' hns hf
    replace HS8 : Hid (∀ (ob : Obj) (v' : Value) (w8 : World), _) := HS8
    clear HM HST hns hf hS0
    refine hK.out _ _ (fun _ => hS6) ?_
    clear hK K
    try simp only [Act.put, List.setIfInBounds_toArray, List.set_cons_zero, List.set_cons_succ]
    refine AnyL.oneAt 5 rfl (by kernel_rfl) rfl ?_
    intro K hK
    go_simp
    refine hK.out _ _ (fun _ => hS6a _) ?_
    clear hK K
    try simp only [Act.put, List.setIfInBounds_toArray, List.set_cons_zero, List.set_cons_succ]
    refine AnyL.oneAt 6 rfl (by kernel_rfl) rfl ?_
    intro K hK
    refine wp_append_own _ (.tmp 23) (.tmp 27) 63 rfl (w.heap.size + 2) 50 i0 (.agg #[.int .i64 0, .int .i64 0, .string ⟨#[]⟩, .int .i64 0]) 4 40 Try.underlying63 HI0 hz0 hz1 hz2 rfl (by decide) (.slice px j cx) j VC rfl (hown6.alloc _) ⟨w6.heap.size, 0, none⟩ 1 1 [.int .i64 rv.k, .int .i64 rv.m, .string rv.x, .int .i64 rv.r] rfl rfl ((show ∀ w6 : World, _ from HQC) w6) h1c (by unfold maxLen; omega) (by omega) (by simp; omega) ?_
    intro v' w8 hown1 hgrow1 _
    obtain ⟨px', cx', rfl⟩ := own_shape hown1
    obtain ⟨hS8, ⟨x1, x2⟩, hTS⟩ := (show ∀ (ob : Obj) (v' : Value) (w8 : World), _ from HS8) _ _ _ hown1 hgrow1
    have HTS : Hid (TS B pn A n cn nb mb o f.t f.C w w.heap.size (j + 1) vo' (.slice px' (j + 1) cx') (w8.setCell ⟨w.heap.size + 1, 1, none⟩ (.slice px' (j + 1) cx'))) := hTS
    clear HS8 hown1 hgrow1 hTS hS6 hS6a hown6
    refine hK.out _ _ (fun _ => hS8) ?_
    clear hK K
    try simp only [Act.put, List.setIfInBounds_toArray, List.set_cons_zero, List.set_cons_succ]
    first
    | (refine AnyL.takeAt 7 (.pointer (some ⟨w.heap.size + 1, 1, none⟩)) rfl (by kernel_rfl) (by kernel_rfl) (by kernel_rfl) (by kernel_rfl) (fun _ _ _ h => h) rfl hS8 (by intro W hW; go_simp) ?_)
    | skip
    try simp only [Act.put, List.setIfInBounds_toArray, List.set_cons_zero, List.set_cons_succ]
    refine AnyL.oneAt 8 rfl (by kernel_rfl) rfl ?_
    intro K hK
    go_simp
    refine hK.out _ _ (fun h => absurd rfl h) ?_
    clear hK K hS8 x1 x2
    try simp only [Act.put, List.setIfInBounds_toArray, List.set_cons_zero, List.set_cons_succ]
    refine AnyL.done (by kernel_rfl) ?_
    go_wp2_with fail
    go_roundw
    case rel => exact ⟨j + 1, _, _, by go_num, by omega, HTS⟩
    case measure => simp [intOf]; omega
end Go.Proofs.Ytdkmnggdelchkaa.Fo
