import Derived.Test.YtamcnmnaadpfoaaMNba
namespace Go.Proofs.Ytamcnmnaadpfoaa.Fo
open Go.ChangeShapes Go.WideShapes Go.ChangeAt Go.RowKit
set_option linter.unusedVariables false
set_option maxRecDepth 100000
theorem wrap_u8 (x : Int) : IntKind.u8.wrap x = x % 256 := by
  simp [IntKind.wrap, IntKind.bits, IntKind.signed]
theorem kb_drewN {W w' : World} (h : ∃ d, w' = W.drewN d) : Kb 0 W w' := by
  obtain ⟨d, rfl⟩ := h
  exact (Kb.refl 0 W).drewN d
set_option maxHeartbeats 4000000 in
theorem to_byts {va : Value} {n : Nat} {A : Nat → Int} (w : World) (ha : RowV w va n (fun i => .int .u8 (A i))) (hn : n ≤ 1048576) :
    Calls Try.prog 6 #[va] w fun e w' => ∃ v, e = .returned v ∧ OwnR w' v w.heap.size n (fun i => .int .u8 (A i)) ∧ Below w.heap.size w w' ∧ w.heap.size < w'.heap.size := by
  obtain ⟨pa, ca, rfl, ha2⟩ := ha
  have hnI : (n : Int) ≤ 1048576 := by omega
  have hmk := run_make (P := Try.prog) w 22 5 Try.t5 (.int .u8 0) Try.underlying22 (by kernel_rfl) (by kernel_rfl) .i64 .i64 (n : Int) (n : Int) (by omega) (Int.le_refl _) (by show (1 : Int) * (n : Int) ≤ _; omega) (by omega)
  rw [Int.toNat_natCast] at hmk
  obtain ⟨w1, hw1⟩ : ∃ w1, w1 = w.alloc (.cells (madeCells (.int .u8 0 : Value).cells (n * Try.t5.size)) 5) := ⟨_, rfl⟩
  rw [← hw1] at hmk
  have c1 : ∀ j, j < n → w1.cell? ⟨w.heap.size, j, none⟩ = some (.int .u8 0) := by intro j hj; rw [hw1]; exact made_cell w _ 5 n rfl j hj
  have f1 : ∀ j, w1.frozen? ⟨w.heap.size, j, none⟩ = false := by intro j; rw [hw1]; exact made_fz _ _ _ _
  have b1 : Below w.heap.size w w1 := by rw [hw1]; exact (Below.refl _ w).alloc (Nat.le_refl _) _
  have l1 : w.heap.size < w1.heap.size := by rw [hw1]; simp
  have HI0 : Hid (MkR w1 w.heap.size n (fun _ => .int .u8 0) (fun i => .int .u8 (A i)) 0 w1) := (⟨Kq.refl _ _, fun i hi => by omega, fun i _ hi => c1 i hi, f1⟩ : MkR w1 w.heap.size n _ _ 0 w1)
  have HA : Hid ((0 < n → ∃ a : Addr, pa = some a ∧ n ≤ ca ∧ ∀ i, i < n → w.cell? (a.add i) = some (.int .u8 (A i))) ∧ Below w.heap.size w w1 ∧ w.heap.size < w1.heap.size) := (⟨ha2, b1, l1⟩ : _ ∧ _ ∧ _)
  clear ha2 b1 c1 f1 hw1 hn l1
  obtain ⟨G, hG⟩ : ∃ G, G = w.heap.size := ⟨_, rfl⟩
  rw [← hG] at hmk HI0 ⊢
  have HG : Hid (G = w.heap.size) := hG
  clear hG
  go_enter Try.func6, Try.ntmps6
  go_wp2_with fail
  go_loopw [4] (fun s4 wr => ∃ i : Nat, s4 = .int .i64 (i : Int) ∧ i ≤ n ∧ Hid (MkR w1 G n (fun _ => .int .u8 0) (fun i => .int .u8 (A i)) i wr)) (fun s4 _ => n - (intOf s4).toNat)
  case atStart => exact ⟨0, rfl, Nat.zero_le _, HI0⟩
  case round =>
    clear HI0 hmk
    obtain ⟨i, rfl, hin, HI⟩ := hrel
    have hI := (show MkR w1 G n (fun _ => .int .u8 0) (fun i => .int .u8 (A i)) i wr from HI)
    have hA := (show (0 < n → ∃ a : Addr, pa = some a ∧ n ≤ ca ∧ ∀ i, i < n → w.cell? (a.add i) = some (.int .u8 (A i))) ∧ Below w.heap.size w w1 ∧ w.heap.size < w1.heap.size from HA)
    rcases Nat.lt_or_ge i n with hi | hi
    · have hiI : (i : Int) < (n : Int) := by omega
      obtain ⟨a, rfl, hca, hra⟩ := hA.1 (by omega)
      have q0 := hra i hi
      have hl := lt_of_cell' q0
      have qa : wr.cell? (a.add i) = some (.int .u8 (A i)) := by
        rw [World.cell?_of_block (w := w1) (hI.kq.block _ (Nat.lt_of_lt_of_le hl hA.2.1.size) (by rw [show G = w.heap.size from HG]; omega)), hA.2.1.cell hl]
        exact q0
      obtain ⟨c, f, hM⟩ := hI.step hi (Below.refl _ _)
      have HM : Hid (MkR w1 G n (fun _ => .int .u8 0) (fun i => .int .u8 (A i)) (i + 1) (wr.setCell ⟨G, i, none⟩ (.int .u8 (A i)))) := hM
      clear hM hI HI hin hA HA hra q0 hl HG
      generalize A i = y at qa HM
      go_wp2_with fail
      go_roundw
      case rel => exact ⟨i + 1, by go_num, by omega, HM⟩
      case measure => simp [intOf]; omega
    · obtain rfl : i = n := by omega
      have HE : Hid (MkR w1 G i (fun _ => .int .u8 0) (fun i => .int .u8 (A i)) i wr ∧ Below w.heap.size w w1 ∧ G = w.heap.size ∧ w.heap.size < w1.heap.size) := (⟨hI, hA.2.1, HG, hA.2.2⟩ : _ ∧ _ ∧ _ ∧ _)
      clear HI hI hA HA HG
      go_wp2_with fail
      go_ret
      obtain ⟨hE, hB, rfl, hL⟩ := (show MkR w1 G i (fun _ => .int .u8 0) (fun i => .int .u8 (A i)) i wr ∧ Below w.heap.size w w1 ∧ G = w.heap.size ∧ w.heap.size < w1.heap.size from HE)
      refine ⟨_, rfl, ⟨⟨_, _, rfl, fun _ => ⟨rfl, Nat.le_refl _⟩⟩, fun j hj => hE.don j hj, fun _ j => hE.fz j⟩, ?_, Nat.lt_of_lt_of_le hL hE.kq.size⟩
      exact ⟨hE.kq.os.trans hB.os, hE.kq.tape.trans hB.tape, hE.kq.output.trans hB.output, Nat.le_trans hB.size hE.kq.size, fun k hk => (hE.kq.block k (Nat.lt_of_lt_of_le hk hB.size) (by omega)).trans (hB.block k hk)⟩
set_option maxRecDepth 100000 in
set_option maxHeartbeats 4000000 in
theorem eq_byts {va vb : Value} {n : Nat} {A : Nat → Int} (w : World) (ha : RowV w va n (fun i => .int .u8 (A i))) (hb : RowV w vb n (fun i => .int .u8 (A i))) (hn : n ≤ 1048576) :
    Calls Try.prog 9 #[va, vb] w fun e w' => e = .returned (.bool true) ∧ ∃ d, w' = w.drewN d := by
  obtain ⟨pa, ca, rfl, ha2⟩ := ha
  obtain ⟨pb, cb, rfl, hb2⟩ := hb
  have HA : Hid ((0 < n → ∃ a : Addr, pa = some a ∧ n ≤ ca ∧ ∀ i, i < n → w.cell? (a.add i) = some (.int .u8 (A i))) ∧ (0 < n → ∃ a : Addr, pb = some a ∧ n ≤ cb ∧ ∀ i, i < n → w.cell? (a.add i) = some (.int .u8 (A i)))) := (⟨ha2, hb2⟩ : _ ∧ _)
  have hnI : (n : Int) ≤ 1048576 := by omega
  clear ha2 hb2 hn
  go_enter Try.func9, Try.ntmps9
  go_wp2_with fail
  go_loopw [5] (fun s5 wr => ∃ i d : Nat, s5 = .int .i64 (i : Int) ∧ i ≤ n ∧ wr = w.drewN d) (fun s5 _ => n - (intOf s5).toNat)
  case atStart => exact ⟨0, 0, rfl, Nat.zero_le _, rfl⟩
  case round =>
    obtain ⟨i, d, rfl, hin, rfl⟩ := hrel
    rcases Nat.lt_or_ge i n with hi | hi
    · obtain ⟨a, rfl, hca, hra⟩ := HA.1 (by omega)
      obtain ⟨b, rfl, hcb, hrb⟩ := HA.2 (by omega)
      have hiI : (i : Int) < (n : Int) := by omega
      have qa := hra i hi
      have qb := hrb i hi
      clear hra hrb HA hin
      generalize A i = x at *
      go_wp2_with fail
      go_quiet (skip)
      go_wp2_with fail
      go_roundw
      case rel => exact ⟨i + 1, _, by go_num, by omega, rfl⟩
      case measure => simp [intOf]; omega
    · obtain rfl : i = n := by omega
      clear HA
      go_wp2_with fail
      go_ret
      exact ⟨rfl, _, rfl⟩
set_option maxRecDepth 100000 in
set_option maxHeartbeats 4000000 in
theorem mark_byts {v : Value} {g n : Nat} {A : Nat → Int} (w : World) (k : Int) (ha : OwnR w v g n (fun i => .int .u8 (A i))) (hn : n ≤ 1048576) (hk0 : 0 ≤ k) (hk : k ≤ 100000000) :
    Calls Try.prog 10 #[v, .int .i64 k] w fun e w' => e = .returned (.int .i64 (k + (n : Int))) ∧ Kq (fun j => 0 < n ∧ j = g) w w' ∧ OwnR w' v g n (fun i => .int .u8 ((k + (i : Int)) % 256)) := by
  obtain ⟨pa, ca, rfl, ha2⟩ := ha.sl
  by_cases h0 : n = 0
  · subst h0
    go_enter Try.func10, Try.ntmps10
    go_wp2_with fail
    refine wp_loop_rounds 1 ?_
    rw [rounds_succ]
    go_wp2_with fail
    go_ret
    exact ⟨by simp, Kq.refl _ _, ⟨⟨pa, ca, rfl, ha2⟩, fun i hi => by omega, fun f => by omega⟩⟩
  · obtain ⟨rfl, hca⟩ := ha2 (by omega)
    have HI0 : Hid (MkR w g n (fun i => .int .u8 (A i)) (fun i => .int .u8 ((k + (i : Int)) % 256)) 0 w) := (⟨Kq.refl _ _, fun i hi => by omega, fun i _ hi => ha.cell i hi, ha.fz (by omega)⟩ : MkR w g n _ _ 0 w)
    have hnI : (n : Int) ≤ 1048576 := by omega
    have HN0 : Hid (0 < n) := (by omega : 0 < n)
    clear ha2 ha h0
    go_enter Try.func10, Try.ntmps10
    go_wp2_with fail
    go_loopw [1, 5] (fun s1 s5 wr => ∃ i : Nat, s5 = .int .i64 (i : Int) ∧ s1 = .int .i64 (k + (i : Int)) ∧ i ≤ n ∧ Hid (MkR w g n (fun i => .int .u8 (A i)) (fun i => .int .u8 ((k + (i : Int)) % 256)) i wr)) (fun _ s5 _ => n - (intOf s5).toNat)
    case atStart => exact ⟨0, rfl, by simp, Nat.zero_le _, HI0⟩
    case round =>
      clear HI0
      obtain ⟨i, rfl, rfl, hin, HI⟩ := hrel
      have hI := (show MkR w g n (fun i => .int .u8 (A i)) (fun i => .int .u8 ((k + (i : Int)) % 256)) i wr from HI)
      rcases Nat.lt_or_ge i n with hi | hi
      · have hiI : (i : Int) < (n : Int) := by omega
        obtain ⟨c, f, hM⟩ := hI.step hi (Below.refl _ _)
        have hx : k + (i : Int) ≤ 101048576 := by omega
        have hx0 : 0 ≤ k + (i : Int) := by omega
        have HM : Hid (MkR w g n (fun i => .int .u8 (A i)) (fun i => .int .u8 ((k + (i : Int)) % 256)) (i + 1) (wr.setCell ⟨g, i, none⟩ (.int .u8 ((k + (i : Int)) % 256)))) := hM
        clear hM hI HI hin
        generalize A i = y at c
        have hxk : ∃ x : Int, x = k + (i : Int) := ⟨_, rfl⟩
        obtain ⟨x, hxk⟩ := hxk
        have HX : Hid (x = k + (i : Int)) := hxk
        rw [← hxk] at hx hx0 HM ⊢
        clear hxk
        have hwr : IntKind.u8.wrap x = x % 256 := wrap_u8 x
        obtain ⟨xb, hxb⟩ : ∃ xb, xb = x % 256 := ⟨_, rfl⟩
        rw [← hxb] at hwr HM
        clear hxb
        go_wp2_with fail
        go_roundw
        case rel => exact ⟨i + 1, by go_num, by rw [show x = k + (i : Int) from HX]; exact congrArg (Value.int .i64) (by omega), by omega, HM⟩
        case measure => simp [intOf]; omega
      · obtain rfl : i = n := by omega
        have HE : Hid (MkR w g i (fun i => .int .u8 (A i)) (fun i => .int .u8 ((k + (i : Int)) % 256)) i wr) := hI
        clear HI hI
        go_wp2_with fail
        go_ret
        exact ⟨rfl, HE.kq.mono (fun j e => ⟨HN0, e⟩), ⟨⟨_, ca, rfl, fun _ => ⟨rfl, hca⟩⟩, fun j hj => HE.don j hj, fun _ j => HE.fz j⟩⟩
theorem OwnR.kb {W W' : World} {v : Value} {g n : Nat} {A : Nat → Value} (h : OwnR W v g n A) (k : n ≠ 0 → W'.heap[g]? = W.heap[g]?) : OwnR W' v g n A := by
  refine ⟨h.sl, fun i hi => ?_, fun q j => ?_⟩
  · rw [World.cell?_of_block (w := W) (k (by omega))]; exact h.cell i hi
  · rw [World.frozen?_of_block (w := W) (k (by omega))]; exact h.fz q j
end Go.Proofs.Ytamcnmnaadpfoaa.Fo

namespace Go.Proofs.Ytamcnmnaadpfoaa.Fo
open Go.ChangeShapes Go.WideShapes Go.ChangeAt Go.RowKit
set_option linter.unusedVariables false
set_option maxRecDepth 100000
/-- one byte more in a sum -/
def sst (h x : Int) : Int := IntKind.u64.wrap (bits BinOp.xor IntKind.u64 h x * 1099511628211)
def smz (A : Nat → Int) : Nat → Int
  | 0 => 14695981039346656037
  | i + 1 => sst (smz A i) (A i)
set_option maxHeartbeats 4000000 in
theorem sp_sum {va : Value} {n : Nat} {A : Nat → Int} (w : World) (ha : RowV w va n (fun i => .int .u8 (A i))) (hn : n ≤ 1048576) (hA : ∀ i, i < n → 0 ≤ A i ∧ A i ≤ 255) :
    Calls Try.prog 76 #[va] w fun e w' => e = .returned (.int .u64 (smz A n)) ∧ w' = w := by
  obtain ⟨pa, ca, rfl, ha2⟩ := ha
  have HA : Hid ((0 < n → ∃ a : Addr, pa = some a ∧ n ≤ ca ∧ ∀ i, i < n → w.cell? (a.add i) = some (.int .u8 (A i))) ∧ ∀ i, i < n → 0 ≤ A i ∧ A i ≤ 255) := (⟨ha2, hA⟩ : _ ∧ _)
  have hnI : (n : Int) ≤ 1048576 := by omega
  clear ha2 hn hA
  go_enter Try.func76, Try.ntmps76
  go_wp2_with fail
  go_loopw [3, 8] (fun s3 s8 wr => ∃ i : Nat, s3 = .int .u64 (smz A i) ∧ s8 = .int .i64 (i : Int) ∧ i ≤ n ∧ wr = w) (fun _ s8 _ => n - (intOf s8).toNat)
  case atStart => exact ⟨0, rfl, rfl, Nat.zero_le _, rfl⟩
  case round =>
    obtain ⟨i, rfl, rfl, hin, rfl⟩ := hrel
    rcases Nat.lt_or_ge i n with hi | hi
    · obtain ⟨hA1, hA2⟩ := (show (0 < n → _) ∧ ∀ i, i < n → 0 ≤ A i ∧ A i ≤ 255 from HA)
      obtain ⟨a, rfl, hca, hra⟩ := hA1 (by omega)
      have hiI : (i : Int) < (n : Int) := by omega
      have qa := hra i hi
      obtain ⟨x0, x1⟩ := hA2 i hi
      clear hra HA hin hA1 hA2
      have hss : smz A (i + 1) = sst (smz A i) (A i) := rfl
      obtain ⟨y, hy⟩ : ∃ y, y = A i := ⟨_, rfl⟩
      obtain ⟨h, hh⟩ : ∃ h, h = smz A i := ⟨_, rfl⟩
      rw [← hy] at qa x0 x1 hss
      rw [← hh] at hss
      rw [← hh]
      have HSS : Hid (smz A (i + 1) = sst h y) := hss
      clear hy hh hss
      go_wp2_with fail
      go_roundw
      case rel => exact ⟨i + 1, by rw [show smz A (i + 1) = sst h y from HSS]; rfl, by go_num, by omega, trivial⟩
      case measure => simp [intOf]; omega
    · obtain rfl : i = n := by omega
      have hI : ¬ (i : Int) < (i : Int) := by omega
      clear HA
      go_wp2_with fail
      go_ret
      first | exact rfl | exact ⟨rfl, rfl⟩ | trivial
def sgz (A : Nat → Int) (n : Nat) : Int := wrap64 (smz A n)
end Go.Proofs.Ytamcnmnaadpfoaa.Fo

namespace Go.Proofs.Ytamcnmnaadpfoaa.Fo
open Go.ChangeShapes Go.WideShapes Go.ChangeAt Go.RowKit
set_option linter.unusedVariables false
set_option maxRecDepth 100000
set_option maxHeartbeats 4000000 in
theorem im_sumof {va : Value} {n : Nat} {A : Nat → Int} (w : World) (ha : RowV w va n (fun i => .int .u8 (A i))) (hn : n ≤ 1048576) (hA : ∀ i, i < n → 0 ≤ A i ∧ A i ≤ 255) :
    Calls Try.prog 64 #[va] w fun e w' => e = .returned (.int .i64 (sgz A n)) ∧ Kb 0 w w' := by
  obtain ⟨pa, ca, rfl, ha2⟩ := ha
  have HA : Hid ((0 < n → ∃ a : Addr, pa = some a ∧ n ≤ ca ∧ ∀ i, i < n → w.cell? (a.add i) = some (.int .u8 (A i))) ∧ ∀ i, i < n → 0 ≤ A i ∧ A i ≤ 255) := (⟨ha2, hA⟩ : _ ∧ _)
  have hnI : (n : Int) ≤ 1048576 := by omega
  clear ha2 hn hA
  go_enter Try.func64, Try.ntmps64
  go_wp2_with fail
  go_loopw [3, 8] (fun s3 s8 wr => ∃ i : Nat, s3 = .int .u64 (smz A i) ∧ s8 = .int .i64 (i : Int) ∧ i ≤ n ∧ wr = w) (fun _ s8 _ => n - (intOf s8).toNat)
  case atStart => exact ⟨0, rfl, rfl, Nat.zero_le _, rfl⟩
  case round =>
    obtain ⟨i, rfl, rfl, hin, rfl⟩ := hrel
    rcases Nat.lt_or_ge i n with hi | hi
    · obtain ⟨hA1, hA2⟩ := (show (0 < n → _) ∧ ∀ i, i < n → 0 ≤ A i ∧ A i ≤ 255 from HA)
      obtain ⟨a, rfl, hca, hra⟩ := hA1 (by omega)
      have hiI : (i : Int) < (n : Int) := by omega
      have qa := hra i hi
      obtain ⟨x0, x1⟩ := hA2 i hi
      clear hra HA hin hA1 hA2
      have hss : smz A (i + 1) = sst (smz A i) (A i) := rfl
      obtain ⟨y, hy⟩ : ∃ y, y = A i := ⟨_, rfl⟩
      obtain ⟨h, hh⟩ : ∃ h, h = smz A i := ⟨_, rfl⟩
      rw [← hy] at qa x0 x1 hss
      rw [← hh] at hss
      rw [← hh]
      have HSS : Hid (smz A (i + 1) = sst h y) := hss
      clear hy hh hss
      go_wp2_with fail
      go_roundw
      case rel => exact ⟨i + 1, by rw [show smz A (i + 1) = sst h y from HSS]; rfl, by go_num, by omega, trivial⟩
      case measure => simp [intOf]; omega
    · obtain rfl : i = n := by omega
      have hI : ¬ (i : Int) < (i : Int) := by omega
      clear HA
      obtain ⟨h, hh⟩ : ∃ h, h = smz A i := ⟨_, rfl⟩
      have HH : Hid (sgz A i = wrap64 h) := (by rw [hh]; rfl : sgz A i = wrap64 h)
      rw [← hh]
      clear hh
      go_wp2_with fail
      go_ret
      exact ⟨by rw [show sgz A i = wrap64 h from HH]; rfl, Kb.refl _ _⟩
end Go.Proofs.Ytamcnmnaadpfoaa.Fo
