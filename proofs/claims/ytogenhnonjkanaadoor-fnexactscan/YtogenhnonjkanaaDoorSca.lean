import Derived.Test.YtogenhnonjkanaaDoorSal
import Derived.RangeFuncNested
import Derived.RangeFuncBound
import Derived.RangeFuncCalls
import Derived.RangeFuncLeaves
import Derived.Shelf.Abstract
import Derived.Shelf.RegionOpen
import Derived.WalkKit
import Derived.OwnWalkIn
import Derived.TacticsInMore
import Derived.LoopNIn
import Derived.LoopIn
namespace Go.Proofs.YtogenhnonjkanaaDoor
open Go.ChangeShapes Go.WideShapes Go.ChangeAt Go.RowKit Go.Shelf
set_option linter.unusedVariables false
attribute [local go_sem] Oper.semAt_some
/-- a token at a place: kind 0 for none, then 'to' is where it cannot go on -/
structure Tk where
  kind : Int
  to : Nat
  num : Int
  text : ByteArray
/-- what follows from a place on: tokens with their places and lines; where it ends, and whether it is stuck there -/
inductive Run (L : List UInt8) (tk : Nat → Tk) : Nat → Int → List (Nat × Int) → Nat → Bool → Prop
  | fin (p : Nat) (l : Int) (h : p = L.length) : Run L tk p l [] p false
  | bad (p : Nat) (l : Int) (h : p < L.length) (hk : (tk p).kind = 0) : Run L tk p l [] (tk p).to true
  | step (p : Nat) (l : Int) (ts : List (Nat × Int)) (e : Nat) (st : Bool) (h : p < L.length) (hk : (tk p).kind ≠ 0) (hr : Run L tk (bl L (tk p).to) (if (tk p).kind = 7 then l + 1 else l) ts e st) : Run L tk p l ((p, l) :: ts) e st
theorem Run.inv {L : List UInt8} {tk : Nat → Tk} {p : Nat} {l : Int} {xs : List (Nat × Int)} {e : Nat} {st : Bool} (h : Run L tk p l xs e st) :
    (xs = [] ∧ p = L.length ∧ e = p ∧ st = false) ∨ (xs = [] ∧ p < L.length ∧ (tk p).kind = 0 ∧ e = (tk p).to ∧ st = true) ∨
    (∃ ts, xs = (p, l) :: ts ∧ p < L.length ∧ (tk p).kind ≠ 0 ∧ Run L tk (bl L (tk p).to) (if (tk p).kind = 7 then l + 1 else l) ts e st) := by
  cases h with
  | fin _ _ h => exact .inl ⟨rfl, h, rfl, rfl⟩
  | bad _ _ h hk => exact .inr (.inl ⟨rfl, h, hk, rfl, rfl⟩)
  | step _ _ ts _ _ h hk hr => exact .inr (.inr ⟨ts, rfl, h, hk, hr⟩)
/-- the token's facts -/
structure TkOk (L : List UInt8) (tk : Nat → Tk) : Prop where
  lt : ∀ p, p < L.length → (tk p).kind ≠ 0 → p < (tk p).to
  le : ∀ p, p < L.length → (tk p).to ≤ L.length
theorem run_any {L : List UInt8} {tk : Nat → Tk} (ok : TkOk L tk) : ∀ (n p : Nat) (l : Int), p ≤ L.length → L.length - p ≤ n → ∃ ts e st, Run L tk p l ts e st
  | n, p, l, hp, hn => by
    by_cases he : p = L.length
    · exact ⟨[], p, false, .fin p l he⟩
    · by_cases hk : (tk p).kind = 0
      · exact ⟨[], _, true, .bad p l (by omega) hk⟩
      · have h1 := ok.lt p (by omega) hk
        have h2 := ok.le p (by omega)
        have h3 := bl_le L _ h2
        have h4 := bl_ge L (tk p).to
        cases n with
        | zero => omega
        | succ n =>
          obtain ⟨ts, e, st, hr⟩ := run_any ok n (bl L (tk p).to) (if (tk p).kind = 7 then l + 1 else l) h3 (by omega)
          exact ⟨_, e, st, .step p l ts e st (by omega) hk hr⟩
def tkV (tk : Nat → Tk) (x : Nat × Int) : Value := tokV (tk x.1).kind x.1 (tk x.1).to x.2 (tk x.1).num (tk x.1).text
/-- the contract of the program's token -/
def TokC (B : Nat) (T : ByteArray) (L : List UInt8) (tk : Nat → Tk) : Prop := ∀ (p : Nat) (l : Int) (w : World), p < L.length → 0 ≤ l → l ≤ (p : Int) + 1 → Gd w → Sb B T p l false w →
  Calls Tryd.prog 41 #[.pointer (some ⟨B, 0, none⟩)] w fun e w' => e = .returned (tkV tk (p, l)) ∧ Mv B T (tk p).to (if (tk p).kind = 7 then l + 1 else l) false w w'
theorem Sb.box {B : Nat} {T : ByteArray} {k l : Int} {st : Bool} {w : World} (h : Sb B T k l st w) : ∃ o : Obj, w.heap[B]? = some o := ⟨_, h⟩
set_option maxRecDepth 100000 in
set_option maxHeartbeats 2000000 in
theorem iter_in (n : Nat) (hn : 1 ≤ n) (lp Bb B : Nat) (T : ByteArray) (L : List UInt8) (hT : T.data.toList = L) (hlen : T.size ≤ 65536) (tk : Nat → Tk) (ok : TkOk L tk) (htok : TokC B T L tk) (hB9 : 8 ≤ B)
    (xs : List (Nat × Int)) (J : List (Nat × Int) → World → Prop)
    (hJ : ∀ pre W W', J pre W → Kb B W W' → J pre W') (hJb : ∀ pre W, J pre W → W.cell? ⟨Bb, 0, none⟩ = some (.pointer (some ⟨B, 0, none⟩)) ∧ Gd W)
    (hY : ∀ pre x W, J pre W → pre.length < xs.length → YieldAt Fence.wide (n - 1) Tryd.prog lp #[tkV tk x] W fun e W' => e = .returned (.bool true) ∧ J (pre ++ [x]) W' ∧ W'.heap[B]? = W.heap[B]?)
    (e : Nat) (st : Bool) (hrun : Run L tk (bl L 0) 1 xs e st) (W : World) (hS : Sb B T 0 1 false W) (h0 : J [] W) :
    CallsIn Fence.wide n Tryd.prog 38 #[.func (.yield lp) #[] #[], .pointer (some ⟨Bb, 0, none⟩)] W fun en W' => (∃ v, en = .returned v) ∧ J xs W' ∧ ∃ l, Sb B T e l st W' := by
  have hsz : T.size = L.length := by rw [← hT]; simp
  have HBL : Hid (∀ (k : Nat) (l : Int) (w : World), k ≤ T.size → Sb B T k l false w → Calls Tryd.prog 39 #[.pointer (some ⟨B, 0, none⟩)] w fun e w' => e = .returned (.tuple #[]) ∧ Mv B T (bl L k : Nat) l false w w') := (fun k l w hk h => impl_blanks L hT hlen hk w h : ∀ (k : Nat) (l : Int) (w : World), k ≤ T.size → Sb B T k l false w → Calls Tryd.prog 39 #[.pointer (some ⟨B, 0, none⟩)] w fun e w' => e = .returned (.tuple #[]) ∧ Mv B T (bl L k : Nat) l false w w')
  have cb := (hJb [] W h0).1
  have hb0 := (show ∀ (k : Nat) (l : Int) (w : World), _ from HBL) 0 1 W (Nat.zero_le _) hS
  refine callsIn_of_wp Tryd.func38 rfl trivial ?_ rfl
  simp only [Tryd.ntmps38, List.size_toArray, List.length_cons, List.length_nil, Nat.reduceAdd, Nat.reduceSub, Array.replicate_succ, Array.replicate_zero, List.push_toArray, List.append_toArray, List.nil_append, List.cons_append]
  gi_wp2_with fail
  refine ⟨trivial, (callsIn_wide.2 hb0).mono ?_⟩
  rintro en w1 ⟨rfl, m1⟩
  have hbl0 := bl_le L 0 (Nat.zero_le _)
  have HS1 : Hid (Sb B T (bl L 0 : Nat) 1 false w1 ∧ J [] w1) := (⟨m1.2, hJ [] W w1 h0 m1.1⟩ : _ ∧ _)
  have HRUN : Hid (Run L tk (bl L 0) 1 xs e st) := hrun
  have HJ : Hid (∀ pre W W', J pre W → Kb B W W' → J pre W') := hJ
  have HJB : Hid (∀ pre W, J pre W → W.cell? ⟨Bb, 0, none⟩ = some (.pointer (some ⟨B, 0, none⟩)) ∧ Gd W) := hJb
  have HY : Hid (∀ pre x W, J pre W → pre.length < xs.length → YieldAt Fence.wide (n - 1) Tryd.prog lp #[tkV tk x] W fun e W' => e = .returned (.bool true) ∧ J (pre ++ [x]) W' ∧ W'.heap[B]? = W.heap[B]?) := hY
  have HTK : Hid (TokC B T L tk) := htok
  have HOK : Hid (TkOk L tk) := ok
  have HB9 : Hid (8 ≤ B) := hB9
  have HTT : Hid (T.data.toList = L) := hT
  have HLN : Hid (T.size ≤ 65536) := hlen
  clear hB9 hb0 m1 cb hrun hJ hJb hY htok ok hT hlen hS h0
  gi_wp2_with fail
  gi_loopw [] (fun wr => ∃ (p : Nat) (l : Int) (pre rest : List (Nat × Int)), p ≤ L.length ∧ Hid (xs = pre ++ rest ∧ Run L tk p l rest e st ∧ 0 ≤ l ∧ l ≤ (p : Int) + 1 ∧ Sb B T p l false wr ∧ J pre wr)) (fun wr => L.length - atOf B wr)
  case atStart => exact ⟨bl L 0, 1, [], xs, hbl0, (⟨rfl, HRUN, by omega, by omega, HS1.1, HS1.2⟩ : _ ∧ _ ∧ _ ∧ _ ∧ _ ∧ _)⟩
  case round =>
    clear HS1 HRUN
    obtain ⟨p, l, pre, rest, hp, HR⟩ := hrel
    obtain ⟨hx, hrun, hl0, hl1, hS, hJp⟩ := (show xs = pre ++ rest ∧ Run L tk p l rest e st ∧ 0 ≤ l ∧ l ≤ (p : Int) + 1 ∧ Sb B T p l false wr ∧ J pre wr from HR)
    clear HR
    obtain ⟨cb, hG⟩ := (show ∀ pre W, J pre W → _ from HJB) pre wr hJp
    have hat := atOf_sb hS
    rcases hrun.inv with ⟨r1, r2, r3, r4⟩ | ⟨r1, r2, r3, r4, r5⟩ | ⟨ts, r1, r2, r3, r4⟩
    · have he := ended_mv true (by simp; omega) wr hS
      have HF : Hid (∀ w1, Mv B T p l false wr w1 → J xs w1 ∧ ∃ l, Sb B T e l st w1) := (fun w1 m1 => ⟨by rw [hx, r1, List.append_nil]; exact (show ∀ pre W W', _ from HJ) pre wr w1 hJp m1.1, l, by rw [r3, r4]; exact m1.2⟩ : ∀ w1, Mv B T p l false wr w1 → J xs w1 ∧ ∃ l, Sb B T e l st w1)
      clear HJ HJB HY HTK HOK HTT HLN HBL hx hS hJp hG hat hl0 hl1 hrun r1 r2 r3 r4
      gi_wp2_with fail
      refine ⟨trivial, (callsIn_wide.2 he).mono ?_⟩
      rintro en w1 ⟨rfl, m1⟩
      have hF := (show ∀ w1, _ → _ from HF) w1 m1
      clear he HF m1
      gi_wp2_with fail
      go_end0
      exact ⟨⟨_, rfl⟩, hF⟩
    · have he := ended_mv false (by simp; omega) wr hS
      have ht := fun w1 (m1 : Mv B T p l false wr w1) => (show TokC B T L tk from HTK) p l w1 r2 hl0 hl1 (hG.kb (show 8 ≤ B from HB9) m1.1) m1.2
      have hcb := fun w1 (m1 : Kb B wr w1) => ((show ∀ pre W, J pre W → _ from HJB) pre w1 ((show ∀ pre W W', _ from HJ) pre wr w1 hJp m1)).1
      have hk0 : ((tk p).kind == 0) = true := by simpa using r3
      have n7 : ¬ (tk p).kind = 7 := by rw [r3]; decide
      have HF : Hid (∀ w1, Kb B wr w1 → J xs w1) := (fun w1 m1 => by rw [hx, r1, List.append_nil]; exact (show ∀ pre W W', _ from HJ) pre wr w1 hJp m1 : ∀ w1, Kb B wr w1 → J xs w1)
      have HE : Hid (e = (tk p).to ∧ st = true) := (⟨r4, r5⟩ : _ ∧ _)
      clear HJ HJB HY HTK HOK HTT HLN HBL hx hS hJp hG hat hl0 hl1 hrun r1 r2 r3 r4 r5
      gi_wp2_with fail
      refine ⟨trivial, (callsIn_wide.2 he).mono ?_⟩
      rintro en w1 ⟨rfl, m1⟩
      have ht1 := ht w1 m1
      have cb1 := hcb w1 m1.1
      rw [if_neg n7] at ht1
      unfold tkV tokV at ht1
      clear he ht cb
      gi_wp2_with fail
      refine ⟨trivial, (callsIn_wide.2 ht1).mono ?_⟩
      rintro en w2 ⟨rfl, m2⟩
      clear ht1 cb1
      have m12 := m1.trans m2
      have hz := m12
      obtain ⟨A, hA⟩ : ∃ A, A = w2.alloc (.cells #[.int .i64 (tk p).kind, .int .i64 p, .int .i64 (tk p).to, .int .i64 l, .int .i64 (tk p).num, .string (tk p).text] 33) := ⟨_, rfl⟩
      have mA : Mv B T (tk p).to l false wr A := m12.trans (by rw [hA]; exact Mv.below m12.2 ((Below.refl _ w2).alloc (Nat.le_refl _) _) (Nat.le_refl _))
      have cbA := hcb A mA.1
      have fA := mA.2.fz 3
      have cA := mA.2.c3
      have HM : Hid (Mv B T (tk p).to l false wr A) := mA
      rw [hA] at cbA fA cA
      clear m1 m2 m12 hz hcb mA
      gi_wp2_with fail
      rw [← hA]
      refine bodyPost_ret (results_none rfl _ _ _) rfl ?_
      have hM := (show Mv B T (tk p).to l false wr A from HM)
      have hEE := (show e = (tk p).to ∧ st = true from HE)
      refine ⟨⟨_, rfl⟩, (show ∀ w1, Kb B wr w1 → J xs w1 from HF) _ (hM.1.setCell 3 _), l, ?_⟩
      rw [hEE.1, hEE.2]
      exact hM.2.set3 _
    · have he := ended_mv false (by simp; omega) wr hS
      have ht := fun w1 (m1 : Mv B T p l false wr w1) => (show TokC B T L tk from HTK) p l w1 r2 hl0 hl1 (hG.kb (show 8 ≤ B from HB9) m1.1) m1.2
      have hcb := fun w1 (m1 : Kb B wr w1) => ((show ∀ pre W, J pre W → _ from HJB) pre w1 ((show ∀ pre W W', _ from HJ) pre wr w1 hJp m1)).1
      have hk0 : ((tk p).kind == 0) = false := by simpa using r3
      have hto1 := (show TkOk L tk from HOK).lt p r2 r3
      have hto2 := (show TkOk L tk from HOK).le p r2
      obtain ⟨l', hl', hl0', hl1'⟩ : ∃ l' : Int, l' = (if (tk p).kind = 7 then l + 1 else l) ∧ 0 ≤ l' ∧ l' ≤ ((tk p).to : Int) + 1 := by
        refine ⟨_, rfl, ?_, ?_⟩
        · split <;> omega
        · split <;> omega
      rw [← hl'] at r4
      have hyl := fun A (mA : Kb B wr A) => (show ∀ pre x W, J pre W → pre.length < xs.length → _ from HY) pre (p, l) A ((show ∀ pre W W', _ from HJ) pre wr A hJp mA) (by rw [hx, r1]; simp)
      have hbl := bl_le L (tk p).to hto2
      have hblg := bl_ge L (tk p).to
      have HN : Hid (∀ W3 W4, J (pre ++ [(p, l)]) W3 → Mv B T (bl L (tk p).to : Nat) l' false W3 W4 → ((∃ (p : Nat) (l : Int) (pre rest : List (Nat × Int)), p ≤ L.length ∧ Hid (xs = pre ++ rest ∧ Run L tk p l rest e st ∧ 0 ≤ l ∧ l ≤ (p : Int) + 1 ∧ Sb B T p l false W4 ∧ J pre W4)) ∧ L.length - atOf B W4 < L.length - atOf B wr)) :=
        (fun W3 W4 hJ3 m4 => ⟨⟨bl L (tk p).to, l', pre ++ [(p, l)], ts, hbl, (⟨by rw [hx, r1]; simp, r4, hl0', by omega, m4.2, (show ∀ pre W W', _ from HJ) _ W3 W4 hJ3 m4.1⟩ : _ ∧ _ ∧ _ ∧ _ ∧ _ ∧ _)⟩, by rw [atOf_sb m4.2, hat]; omega⟩ : ∀ W3 W4, J (pre ++ [(p, l)]) W3 → Mv B T (bl L (tk p).to : Nat) l' false W3 W4 → ((∃ (p : Nat) (l : Int) (pre rest : List (Nat × Int)), p ≤ L.length ∧ Hid (xs = pre ++ rest ∧ Run L tk p l rest e st ∧ 0 ≤ l ∧ l ≤ (p : Int) + 1 ∧ Sb B T p l false W4 ∧ J pre W4)) ∧ L.length - atOf B W4 < L.length - atOf B wr))
      have hskip := fun W3 (s3 : Sb B T (tk p).to l' false W3) => (show ∀ (k : Nat) (l : Int) (w : World), _ from HBL) (tk p).to l' W3 (by omega) s3
      have hcb3 := fun W3 (h3 : J (pre ++ [(p, l)]) W3) => ((show ∀ pre W, J pre W → _ from HJB) _ W3 h3).1
      clear HJ HJB HY HTK HOK HTT HLN HBL hx hS hJp hG hat hl0 hl1 hrun r1 r2 r3 r4 hl0' hl1' hto1 hto2 hbl hblg
      gi_wp2_with fail
      refine ⟨trivial, (callsIn_wide.2 he).mono ?_⟩
      rintro en w1 ⟨rfl, m1⟩
      have ht1 := ht w1 m1
      have cb1 := hcb w1 m1.1
      rw [← hl'] at ht1
      unfold tkV tokV at ht1
      clear he ht cb hl'
      gi_wp2_with fail
      refine ⟨trivial, (callsIn_wide.2 ht1).mono ?_⟩
      rintro en w2 ⟨rfl, m2⟩
      clear ht1 cb1
      have m12 := m1.trans m2
      obtain ⟨A, hA⟩ : ∃ A, A = w2.alloc (.cells #[.int .i64 (tk p).kind, .int .i64 p, .int .i64 (tk p).to, .int .i64 l, .int .i64 (tk p).num, .string (tk p).text] 33) := ⟨_, rfl⟩
      have mA : Mv B T (tk p).to l' false wr A := m12.trans (by rw [hA]; exact Mv.below m12.2 ((Below.refl _ w2).alloc (Nat.le_refl _) _) (Nat.le_refl _))
      obtain ⟨fn, tmps, assign, body, hy, hR⟩ := hyl A mA.1
      have hsA := mA.2
      unfold tkV tokV at hy
      dsimp only at hy
      rw [hA] at hy hR
      have HSA : Hid (Sb B T (tk p).to l' false A) := hsA
      clear m1 m2 m12 hcb mA hyl hsA
      gi_wp2_with fail
      refine hR.mono ?_
      rintro en W3 ⟨rfl, hJ3, hB3⟩
      have hS3 : Sb B T (tk p).to l' false W3 := by rw [hA] at HSA; exact hB3.trans HSA
      have hsk := hskip W3 hS3
      have cb3 := hcb3 W3 hJ3
      have HN3 : Hid (∀ W4, Mv B T (bl L (tk p).to : Nat) l' false W3 W4 → _) := (fun W4 m4 => (show ∀ W3 W4, _ from HN) W3 W4 hJ3 m4)
      clear HN hR hy hB3 hS3 hJ3 hskip hcb3 HSA
      gi_wp2_with fail
      refine ⟨trivial, (callsIn_wide.2 hsk).mono ?_⟩
      rintro en W4 ⟨rfl, m4⟩
      have hN := (show ∀ W4, _ from HN3) W4 m4
      clear hsk HN3 m4 cb3
      gi_wp2_with fail
      exact hN
end Go.Proofs.YtogenhnonjkanaaDoor
