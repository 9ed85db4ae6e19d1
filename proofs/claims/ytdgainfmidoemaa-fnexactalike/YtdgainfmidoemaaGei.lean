import Derived.Test.YtdgainfmidoemaaGeg
import Derived.Deep.QuietTactic
import Derived.BigQuiet
namespace Go.Proofs.Ytdgainfmidoemaa.Fo
open Go.ChangeShapes Go.WideShapes Go.ChangeAt Go.RowKit
set_option linter.unusedVariables false
set_option maxRecDepth 100000
/-- two graphs that are the same, field by field -/
def Sm (A B : Gv) (m m' : Nat) (F F' : Nat → Td) : Prop := A = B ∧ m = m' ∧ ∀ k, k < m → (F k).t = (F' k).t ∧ (F k).c = (F' k).c ∧ ∀ j, j < (F k).c → (F k).C j = (F' k).C j
theorem gv_ext {A B : Gv} (hk : A.k = B.k) (hm : A.m = B.m) (hx : A.x.toList = B.x.toList) (hr : A.r = B.r) : A = B := by
  cases A
  cases B
  simp only [Gv.mk.injEq]
  exact ⟨hk, hm, ByteArray.ext (Array.toList_inj.1 (by rw [← ByteArray.toList_eq, ← ByteArray.toList_eq]; exact hx)), hr⟩
set_option maxHeartbeats 16000000 in
theorem sp_same {A B : Gv} {va vb : Value} {m m' : Nat} {F F' : Nat → Td} (w : World) (ha : RowT 0 w va m F) (hv : RowT 0 w vb m' F') (hb : Bg m F A) (hb' : Bg m' F' B) :
    Calls Try.prog 47 #[grv A va, grv B vb] w fun e w' => e = .returned (.bool (dc (Sm A B m m' F F'))) ∧ Kb 0 w w' := by
  obtain ⟨pa, ca, rfl, ha2⟩ := id ha
  obtain ⟨pb, cb, rfl, hb2⟩ := id hv
  have hmI : (m : Int) ≤ 1048576 := by have := hb.hn; omega
  have hmI' : (m' : Int) ≤ 1048576 := by have := hb'.hn; omega
  obtain ⟨R, hR⟩ : ∃ R, R = dc (Sm A B m m' F F') := ⟨_, rfl⟩
  have HR : Hid (R = dc (Sm A B m m' F F')) := hR
  rw [← hR]
  obtain ⟨w2, hw2⟩ : ∃ w2, w2 = (w.alloc (.cells #[.int .i64 A.k, .int .i64 A.m, .string A.x, .int .i64 A.r, .slice pa m ca] 32)).alloc (.cells #[.int .i64 B.k, .int .i64 B.m, .string B.x, .int .i64 B.r, .slice pb m' cb] 32) := ⟨_, rfl⟩
  have e1 : (w.alloc (.cells #[.int .i64 A.k, .int .i64 A.m, .string A.x, .int .i64 A.r, .slice pa m ca] 32)).heap.size = w.heap.size + 1 := World.size_alloc _ _
  have k2 : Kb 0 w w2 := by rw [hw2]; exact kb_alloc2 _ _ _ _
  have z2 : w2.heap.size = w.heap.size + 2 := by rw [hw2]; simp
  have b0 : w2.heap[w.heap.size]? = some (.cells #[.int .i64 A.k, .int .i64 A.m, .string A.x, .int .i64 A.r, .slice pa m ca] 32 (0, 0)) := by
    rw [hw2, (kb_alloc 0 _ _).block _ (Nat.zero_le _) (by omega)]
    exact alloc_new _ _ _
  have b1 : w2.heap[w.heap.size + 1]? = some (.cells #[.int .i64 B.k, .int .i64 B.m, .string B.x, .int .i64 B.r, .slice pb m' cb] 32 (0, 0)) := by
    rw [hw2, ← e1]
    exact alloc_new _ _ _
  have u0 : w2.cell? ⟨w.heap.size, 0, none⟩ = some (.int .i64 A.k) := cell_of b0 rfl
  have u1 : w2.cell? ⟨w.heap.size, 1, none⟩ = some (.int .i64 A.m) := cell_of b0 rfl
  have u2 : w2.cell? ⟨w.heap.size, 2, none⟩ = some (.string A.x) := cell_of b0 rfl
  have u3 : w2.cell? ⟨w.heap.size, 3, none⟩ = some (.int .i64 A.r) := cell_of b0 rfl
  have u4 : w2.cell? ⟨w.heap.size, 4, none⟩ = some (.slice pa m ca) := cell_of b0 rfl
  have v0 : w2.cell? ⟨w.heap.size + 1, 0, none⟩ = some (.int .i64 B.k) := cell_of b1 rfl
  have v1 : w2.cell? ⟨w.heap.size + 1, 1, none⟩ = some (.int .i64 B.m) := cell_of b1 rfl
  have v2 : w2.cell? ⟨w.heap.size + 1, 2, none⟩ = some (.string B.x) := cell_of b1 rfl
  have v3 : w2.cell? ⟨w.heap.size + 1, 3, none⟩ = some (.int .i64 B.r) := cell_of b1 rfl
  have v4 : w2.cell? ⟨w.heap.size + 1, 4, none⟩ = some (.slice pb m' cb) := cell_of b1 rfl
  have HW2 : Hid (w2 = _) := hw2
  have HB : Hid (Kb 0 w w2 ∧ (0 < m → ∃ a : Addr, pa = some a ∧ m ≤ ca ∧ 0 ≤ a.block ∧ ∀ i, i < m → ThC 0 w (a.add (i * 2)) (F i)) ∧ (0 < m' → ∃ a : Addr, pb = some a ∧ m' ≤ cb ∧ 0 ≤ a.block ∧ ∀ i, i < m' → ThC 0 w (a.add (i * 2)) (F' i)) ∧ Bg m F A ∧ Bg m' F' B) := (⟨k2, ha2, hb2, hb, hb'⟩ : _ ∧ _)
  have HBAD : Hid (¬ Sm A B m m' F F' → R = false) := (fun q => hR.trans (dc_f q) : _ → _)
  have HKK : Hid (Kb 0 w w2) := k2
  clear hR hw2 e1 k2 z2 b0 b1 ha hv ha2 hb2 hb hb'
  unfold grv
  go_enter Try.func47, Try.ntmps47
  go_upto_region 1 with fail
  rw [← (show w2 = _ from HW2)]
  clear HW2
  by_cases hk : A.k = B.k
  case neg =>
    obtain rfl := (show _ → R = false from HBAD) (fun q => hk (by rw [q.1]))
    clear HR HB HBAD
    go_wp2_with fail
    go_ret
    exact ⟨rfl, HKK⟩
  by_cases hm : A.m = B.m
  case neg =>
    obtain rfl := (show _ → R = false from HBAD) (fun q => hm (by rw [q.1]))
    clear HR HB HBAD
    go_wp2_with fail
    go_ret
    exact ⟨rfl, HKK⟩
  by_cases hx : A.x.toList = B.x.toList
  case neg =>
    obtain rfl := (show _ → R = false from HBAD) (fun q => hx (by rw [q.1]))
    clear HR HB HBAD
    go_wp2_with fail
    go_ret
    exact ⟨rfl, HKK⟩
  by_cases hr : A.r = B.r
  case neg =>
    obtain rfl := (show _ → R = false from HBAD) (fun q => hr (by rw [q.1]))
    clear HR HB HBAD
    go_wp2_with fail
    go_ret
    exact ⟨rfl, HKK⟩
  obtain rfl : A = B := by
    exact gv_ext hk hm hx hr
  clear hk hm hx hr
  by_cases hmm : m = m'
  case neg =>
    obtain rfl := (show _ → R = false from HBAD) (fun q => hmm q.2.1)
    have hmn : ((m : Int) != (m' : Int)) = true := by simp; omega
    clear HR HB HBAD hmm
    go_wp2_with fail
    go_ret
    exact ⟨rfl, HKK⟩
  subst hmm
  have H0 : Hid (Kb 0 w2 w2 ∧ ∀ k, k < 0 → (F k).t = (F' k).t ∧ (F k).c = (F' k).c ∧ ∀ j, j < (F k).c → (F k).C j = (F' k).C j) := (⟨Kb.refl _ _, fun k hk => by omega⟩ : _ ∧ _)
  go_wp2_with fail
  go_loopw [24] (fun s24 wr => ∃ i : Nat, s24 = .int .i64 (i : Int) ∧ i ≤ m ∧ Hid (Kb 0 w2 wr ∧ ∀ k, k < i → (F k).t = (F' k).t ∧ (F k).c = (F' k).c ∧ ∀ j, j < (F k).c → (F k).C j = (F' k).C j)) (fun s24 _ => m - (intOf s24).toNat)
  case atStart => exact ⟨0, rfl, Nat.zero_le _, H0⟩
  case round =>
    clear H0 u0 u1 u2 u3 v0 v1 v2 v3
    obtain ⟨i, rfl, hi0, HX⟩ := hrel
    obtain ⟨kw, hq⟩ := (show Kb 0 w2 wr ∧ ∀ k, k < i → (F k).t = (F' k).t ∧ (F k).c = (F' k).c ∧ ∀ j, j < (F k).c → (F k).C j = (F' k).C j from HX)
    clear HX
    obtain ⟨k2, ha2, hb2, hbA, hbB⟩ := (show Kb 0 w w2 ∧ (0 < m → ∃ a : Addr, pa = some a ∧ m ≤ ca ∧ 0 ≤ a.block ∧ ∀ i, i < m → ThC 0 w (a.add (i * 2)) (F i)) ∧ (0 < m → ∃ a : Addr, pb = some a ∧ m ≤ cb ∧ 0 ≤ a.block ∧ ∀ i, i < m → ThC 0 w (a.add (i * 2)) (F' i)) ∧ Bg m F A ∧ Bg m F' A from HB)
    rcases Nat.lt_or_ge i m with hi | hi
    case inr =>
      obtain rfl : i = m := by omega
      have hI : ¬ (i : Int) < (i : Int) := by omega
      obtain rfl : R = true := (show R = _ from HR).trans (dc_t ⟨rfl, rfl, hq⟩)
      have HK : Hid (Kb 0 w wr) := k2.trans kw
      clear kw hq k2 ha2 hb2 hbA hbB HB HR HBAD hi u4 v4
      go_wp2_with fail
      go_ret
      exact ⟨rfl, HK⟩
    have hI : (i : Int) < (m : Int) := by omega
    obtain ⟨AN, rfl, hca, -, hra⟩ := ha2 (by omega)
    obtain ⟨BN, rfl, hcb, -, hrb⟩ := hb2 (by omega)
    obtain ⟨vc, ⟨y0, y1⟩, ⟨pc, cc, rfl, hvc⟩⟩ := hra i hi
    obtain ⟨vd, ⟨z0, z1⟩, ⟨pd, cd, rfl, hvd⟩⟩ := hrb i hi
    have kq := k2.trans kw
    replace y0 := kq.cell y0
    replace y1 := kq.cell y1
    replace z0 := kq.cell z0
    replace z1 := kq.cell z1
    have a4 := kw.cell u4
    have d4 := kw.cell v4
    have HKD : Hid (∀ k, Kb 0 w (wr.drewN k)) := (fun k => Kb.drewN kq k : ∀ k, _)
    by_cases ht : (F i).t = (F' i).t
    case neg =>
      obtain rfl := (show _ → R = false from HBAD) (fun q => ht (q.2.2 i hi).1)
      have htn : ((F i).t != (F' i).t) = true := by simp [ht]
      clear kw hq k2 ha2 hb2 hbA hbB HB HR HBAD hi u4 v4 hra hrb hvc hvd kq
      go_wp2_with fail
      go_quiet (fail)
      clear a4 d4 y0 y1 z0 z1
      go_wp2_with fail
      go_ret
      exact ⟨rfl, (show ∀ k, Kb 0 w (wr.drewN k) from HKD) _⟩
    have htn : ((F i).t != (F' i).t) = false := by simp [ht]
    by_cases hc : (F i).c = (F' i).c
    case neg =>
      obtain rfl := (show _ → R = false from HBAD) (fun q => hc (q.2.2 i hi).2.1)
      have hcn : (((F i).c : Int) != ((F' i).c : Int)) = true := by simp; omega
      clear kw hq k2 ha2 hb2 hbA hbB HB HR HBAD hi u4 v4 hra hrb hvc hvd kq ht hc
      go_wp2_with fail
      go_quiet (fail)
      clear a4 d4 y0 y1 z0 z1
      go_wp2_with fail
      go_ret
      exact ⟨rfl, (show ∀ k, Kb 0 w (wr.drewN k) from HKD) _⟩
    have hcn : (((F i).c : Int) != ((F' i).c : Int)) = false := by rw [hc]; simp
    have hcI : ((F i).c : Int) ≤ 1048576 := by have := hbA.hc i hi; omega
    rw [← hc] at hvd z1
    have HU : Hid (Kb 0 w wr ∧ (∀ k, k < i → (F k).t = (F' k).t ∧ (F k).c = (F' k).c ∧ ∀ j, j < (F k).c → (F k).C j = (F' k).C j) ∧ (F i).t = (F' i).t ∧ (F i).c = (F' i).c ∧ (0 < (F i).c → ∃ a : Addr, pc = some a ∧ (F i).c ≤ cc ∧ 0 ≤ a.block ∧ ∀ j, j < (F i).c → ValC 0 w (a.add (j * 4)) ((F i).C j)) ∧ (0 < (F i).c → ∃ a : Addr, pd = some a ∧ (F i).c ≤ cd ∧ 0 ≤ a.block ∧ ∀ j, j < (F i).c → ValC 0 w (a.add (j * 4)) ((F' i).C j)) ∧ i < m ∧ Kb 0 w2 wr) := (⟨kq, hq, ht, hc, hvc, hvd, hi, kw⟩ : _ ∧ _)
    have HJ : Hid (Kb 0 w2 wr ∧ ∀ j, j < 0 → (F i).C j = (F' i).C j) := (⟨kw, fun j hj => by omega⟩ : _ ∧ _)
    have HKW2 : Hid (∀ W k, Kb 0 w2 W → Kb 0 w2 (W.drewN k)) := (fun W k h => Kb.drewN h k : ∀ W k, _)
    have HN4 : Hid (∀ W, Kb 0 w2 W → W.cell? ⟨w.heap.size, 4, none⟩ = some (.slice (some AN) m ca) ∧ W.cell? ⟨w.heap.size + 1, 4, none⟩ = some (.slice (some BN) m cb) ∧ W.cell? ⟨(AN.add (i * 2)).block, (AN.add (i * 2)).off + 1, none⟩ = some (.slice pc (F i).c cc) ∧ W.cell? ⟨(BN.add (i * 2)).block, (BN.add (i * 2)).off + 1, none⟩ = some (.slice pd (F i).c cd)) := (fun W k => by
      obtain ⟨vc', ⟨_, q1⟩, _⟩ := hra i hi
      obtain ⟨vd', ⟨_, q2⟩, _⟩ := hrb i hi
      have e1 := (kq.cell q1).symm.trans y1
      have e2 := (kq.cell q2).symm.trans z1
      injection e1 with e1
      injection e2 with e2
      subst e1
      subst e2
      exact ⟨k.cell u4, k.cell v4, (k2.trans k).cell q1, (k2.trans k).cell q2⟩ : ∀ W, _)
    have hIm := hi
    clear kw hq k2 ha2 hb2 hbA hbB HB hi hra hrb hvc hvd kq ht hc
    go_wp2_with fail
    go_quiet (fail)
    go_wp2_with fail
    clear y0 y1 z0 z1 a4 d4 htn hcn u4 v4
    obtain ⟨wo, rfl⟩ : ∃ wo, wo = wr := ⟨_, rfl⟩
    go_loopw [64] (fun s64 wr => ∃ j : Nat, s64 = .int .i64 (j : Int) ∧ j ≤ (F i).c ∧ Hid (Kb 0 w2 wr ∧ ∀ q, q < j → (F i).C q = (F' i).C q)) (fun s64 _ => (F i).c - (intOf s64).toNat)
    case atStart => exact ⟨0, rfl, Nat.zero_le _, ⟨(show ∀ W k, Kb 0 w2 W → Kb 0 w2 (W.drewN k) from HKW2) _ _ (show Kb 0 w2 wo ∧ _ from HJ).1, fun j hj => by omega⟩⟩
    case round =>
      clear HJ HKD
      obtain ⟨j, rfl, hj0, HX⟩ := hrel
      obtain ⟨kw, hY⟩ := (show Kb 0 w2 wr ∧ ∀ q, q < j → (F i).C q = (F' i).C q from HX)
      clear HX
      rcases Nat.lt_or_ge j (F i).c with hj | hj
      case inr =>
        obtain rfl : j = (F i).c := by omega
        have hI' : ¬ ((F i).c : Int) < ((F i).c : Int) := by omega
        have HN : Hid (Kb 0 w2 wr ∧ ∀ k, k < i + 1 → (F k).t = (F' k).t ∧ (F k).c = (F' k).c ∧ ∀ j, j < (F k).c → (F k).C j = (F' k).C j) := (⟨kw, fun k hk => by
          obtain ⟨_, u1, u2, u3, _⟩ := (show Kb 0 w wo ∧ (∀ k, k < i → (F k).t = (F' k).t ∧ (F k).c = (F' k).c ∧ ∀ j, j < (F k).c → (F k).C j = (F' k).C j) ∧ (F i).t = (F' i).t ∧ (F i).c = (F' i).c ∧ (0 < (F i).c → ∃ a : Addr, pc = some a ∧ (F i).c ≤ cc ∧ 0 ≤ a.block ∧ ∀ j, j < (F i).c → ValC 0 w (a.add (j * 4)) ((F i).C j)) ∧ (0 < (F i).c → ∃ a : Addr, pd = some a ∧ (F i).c ≤ cd ∧ 0 ≤ a.block ∧ ∀ j, j < (F i).c → ValC 0 w (a.add (j * 4)) ((F' i).C j)) ∧ i < m ∧ Kb 0 w2 wo from HU)
          by_cases e : k = i
          · subst e; exact ⟨u2, u3, hY⟩
          · exact u1 k (by omega)⟩ : _ ∧ _)
        clear kw hY HU HBAD HR HN4 HKW2 hj
        go_wp2_with fail
        go_roundw
        case rel => exact ⟨i + 1, by go_num, by omega, HN⟩
        case measure => simp [intOf]; omega
      have hI' : (j : Int) < ((F i).c : Int) := by omega
      obtain ⟨_, u1, u2, u3, u4, u5, u6, _⟩ := (show Kb 0 w wo ∧ (∀ k, k < i → (F k).t = (F' k).t ∧ (F k).c = (F' k).c ∧ ∀ j, j < (F k).c → (F k).C j = (F' k).C j) ∧ (F i).t = (F' i).t ∧ (F i).c = (F' i).c ∧ (0 < (F i).c → ∃ a : Addr, pc = some a ∧ (F i).c ≤ cc ∧ 0 ≤ a.block ∧ ∀ j, j < (F i).c → ValC 0 w (a.add (j * 4)) ((F i).C j)) ∧ (0 < (F i).c → ∃ a : Addr, pd = some a ∧ (F i).c ≤ cd ∧ 0 ≤ a.block ∧ ∀ j, j < (F i).c → ValC 0 w (a.add (j * 4)) ((F' i).C j)) ∧ i < m ∧ Kb 0 w2 wo from HU)
      obtain ⟨AC, rfl, hcc, -, hrc⟩ := u4 (by omega)
      obtain ⟨AD, rfl, hcd, -, hrd⟩ := u5 (by omega)
      have kww : Kb 0 w wr := (show Kb 0 w w2 from HKK).trans kw
      obtain ⟨p0, p1, p2, p3⟩ := hrc j hj
      obtain ⟨q0, q1, q2, q3⟩ := hrd j hj
      replace p0 := kww.cell p0
      replace p1 := kww.cell p1
      replace p2 := kww.cell p2
      replace p3 := kww.cell p3
      replace q0 := kww.cell q0
      replace q1 := kww.cell q1
      replace q2 := kww.cell q2
      replace q3 := kww.cell q3
      obtain ⟨a4, d4, y1, z1⟩ := (show ∀ W, Kb 0 w2 W → _ from HN4) wr kw
      have HBD2 : Hid (¬ (F i).C j = (F' i).C j → R = false) := (fun q => (show _ → R = false from HBAD) (fun g => q ((g.2.2 i u6).2.2 j hj)) : _ → _)
      have HM3 : Hid (Kb 0 w2 wr ∧ ∀ q, q < j → (F i).C q = (F' i).C q) := (⟨kw, hY⟩ : _ ∧ _)
      have HKD2 : Hid (∀ k, Kb 0 w (wr.drewN k)) := (fun k => Kb.drewN kww k : ∀ k, _)
      clear u1 u2 u3 u4 u5 u6 hrc hrd kww kw hY hj HN4
      obtain ⟨y, hy⟩ : ∃ y, y = (F i).C j := ⟨_, rfl⟩
      obtain ⟨z, hz⟩ : ∃ z, z = (F' i).C j := ⟨_, rfl⟩
      rw [← hy] at p0 p1 p2 p3 HBD2
      rw [← hz] at q0 q1 q2 q3 HBD2
      have HYZ : Hid (y = (F i).C j ∧ z = (F' i).C j) := (⟨hy, hz⟩ : _ ∧ _)
      clear hy hz
      by_cases hk : y.k = z.k
      case neg =>
        obtain rfl := (show _ → R = false from HBD2) (fun q => hk (by rw [q]))
        clear HBD2 HBAD HR HU HM3
        go_wp2_with fail
        go_quiet (fail)
        clear p0 p1 p2 p3 q0 q1 q2 q3 a4 d4 y1 z1
        go_wp2_with fail
        go_ret
        exact ⟨rfl, (show ∀ k, Kb 0 w (wr.drewN k) from HKD2) _⟩
      by_cases hm : y.m = z.m
      case neg =>
        obtain rfl := (show _ → R = false from HBD2) (fun q => hm (by rw [q]))
        clear HBD2 HBAD HR HU HM3
        go_wp2_with fail
        go_quiet (fail)
        clear p0 p1 p2 p3 q0 q1 q2 q3 a4 d4 y1 z1
        go_wp2_with fail
        go_ret
        exact ⟨rfl, (show ∀ k, Kb 0 w (wr.drewN k) from HKD2) _⟩
      by_cases hx : y.x.toList = z.x.toList
      case neg =>
        obtain rfl := (show _ → R = false from HBD2) (fun q => hx (by rw [q]))
        clear HBD2 HBAD HR HU HM3
        go_wp2_with fail
        go_quiet (fail)
        clear p0 p1 p2 p3 q0 q1 q2 q3 a4 d4 y1 z1
        go_wp2_with fail
        go_ret
        exact ⟨rfl, (show ∀ k, Kb 0 w (wr.drewN k) from HKD2) _⟩
      by_cases hr : y.r = z.r
      case neg =>
        obtain rfl := (show _ → R = false from HBD2) (fun q => hr (by rw [q]))
        clear HBD2 HBAD HR HU HM3
        go_wp2_with fail
        go_quiet (fail)
        clear p0 p1 p2 p3 q0 q1 q2 q3 a4 d4 y1 z1
        go_wp2_with fail
        go_ret
        exact ⟨rfl, (show ∀ k, Kb 0 w (wr.drewN k) from HKD2) _⟩
      obtain rfl : y = z := gv_ext hk hm hx hr
      clear hk hm hx hr
      have HE : Hid (∀ k, Kb 0 w2 (wr.drewN k) ∧ ∀ q, q < j + 1 → (F i).C q = (F' i).C q) := (fun k => by
        obtain ⟨kw, hY⟩ := (show Kb 0 w2 wr ∧ ∀ q, q < j → (F i).C q = (F' i).C q from HM3)
        refine ⟨Kb.drewN kw k, fun q hq => ?_⟩
        by_cases e : q = j
        · subst e; exact (show _ ∧ _ from HYZ).1.symm.trans (show _ ∧ _ from HYZ).2
        · exact hY q (by omega) : ∀ k, _)
      clear HM3 HBD2 HBAD HR HU HYZ HKD2
      go_wp2_with fail
      go_quiet (fail)
      clear p0 p1 p2 p3 q0 q1 q2 q3 a4 d4 y1 z1
      go_wp2_with fail
      go_roundw
      case rel => exact ⟨j + 1, by go_num, by omega, (show ∀ k, _ from HE) _⟩
      case measure => simp [intOf]; omega
end Go.Proofs.Ytdgainfmidoemaa.Fo
