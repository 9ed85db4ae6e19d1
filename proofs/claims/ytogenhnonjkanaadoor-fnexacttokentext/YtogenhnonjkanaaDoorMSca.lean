import Derived.Test.YtogenhnonjkanaaDoorMSai
import Derived.RangeFuncNested
import Derived.RangeFuncBound
import Derived.RangeFuncCalls
import Derived.RangeFuncLeaves
import Derived.Shelf.Abstract
import Derived.Shelf.RegionOpen
import Derived.WalkKit
import Derived.OwnWalkIn
import Derived.TacticsInMore
import Derived.LoopNIn
import Derived.LoopIn
import Derived.Maps.AppendAt
namespace Go.Proofs.YtogenhnonjkanaaDoor
open Go.ChangeShapes Go.WideShapes Go.ChangeAt Go.RowKit Go.Shelf
set_option linter.unusedVariables false
attribute [local go_sem] Oper.semAt_some
/-- a token at a place: kind 0 for none, then 'to' is where it cannot go on -/
structure Tk where
  kind : Int
  to : Nat
  num : Int
  text : ByteArray
/-- what follows from a place on: tokens with their places and lines; where it ends, and whether it is stuck there -/
inductive Run (L : List UInt8) (tk : Nat → Tk) : Nat → Int → List (Nat × Int) → Nat → Bool → Prop
  | fin (p : Nat) (l : Int) (h : p = L.length) : Run L tk p l [] p false
  | bad (p : Nat) (l : Int) (h : p < L.length) (hk : (tk p).kind = 0) : Run L tk p l [] (tk p).to true
  | step (p : Nat) (l : Int) (ts : List (Nat × Int)) (e : Nat) (st : Bool) (h : p < L.length) (hk : (tk p).kind ≠ 0) (hr : Run L tk (bl L (tk p).to) (if (tk p).kind = 7 then l + 1 else l) ts e st) : Run L tk p l ((p, l) :: ts) e st
theorem Run.inv {L : List UInt8} {tk : Nat → Tk} {p : Nat} {l : Int} {xs : List (Nat × Int)} {e : Nat} {st : Bool} (h : Run L tk p l xs e st) :
    (xs = [] ∧ p = L.length ∧ e = p ∧ st = false) ∨ (xs = [] ∧ p < L.length ∧ (tk p).kind = 0 ∧ e = (tk p).to ∧ st = true) ∨
    (∃ ts, xs = (p, l) :: ts ∧ p < L.length ∧ (tk p).kind ≠ 0 ∧ Run L tk (bl L (tk p).to) (if (tk p).kind = 7 then l + 1 else l) ts e st) := by
  cases h with
  | fin _ _ h => exact .inl ⟨rfl, h, rfl, rfl⟩
  | bad _ _ h hk => exact .inr (.inl ⟨rfl, h, hk, rfl, rfl⟩)
  | step _ _ ts _ _ h hk hr => exact .inr (.inr ⟨ts, rfl, h, hk, hr⟩)
/-- the token's facts -/
structure TkOk (L : List UInt8) (tk : Nat → Tk) : Prop where
  lt : ∀ p, p < L.length → (tk p).kind ≠ 0 → p < (tk p).to
  le : ∀ p, p < L.length → (tk p).to ≤ L.length
theorem run_any {L : List UInt8} {tk : Nat → Tk} (ok : TkOk L tk) : ∀ (n p : Nat) (l : Int), p ≤ L.length → L.length - p ≤ n → ∃ ts e st, Run L tk p l ts e st
  | n, p, l, hp, hn => by
    by_cases he : p = L.length
    · exact ⟨[], p, false, .fin p l he⟩
    · by_cases hk : (tk p).kind = 0
      · exact ⟨[], _, true, .bad p l (by omega) hk⟩
      · have h1 := ok.lt p (by omega) hk
        have h2 := ok.le p (by omega)
        have h3 := bl_le L _ h2
        have h4 := bl_ge L (tk p).to
        cases n with
        | zero => omega
        | succ n =>
          obtain ⟨ts, e, st, hr⟩ := run_any ok n (bl L (tk p).to) (if (tk p).kind = 7 then l + 1 else l) h3 (by omega)
          exact ⟨_, e, st, .step p l ts e st (by omega) hk hr⟩
def tkV (tk : Nat → Tk) (x : Nat × Int) : Value := tokV (tk x.1).kind x.1 (tk x.1).to x.2 (tk x.1).num (tk x.1).text
/-- the contract of the program's token -/
def TokC (B : Nat) (T : ByteArray) (L : List UInt8) (tk : Nat → Tk) : Prop := ∀ (p : Nat) (l : Int) (w : World), p < L.length → 0 ≤ l → l ≤ (p : Int) + 1 → Gd w → Sb B T p l false w →
  Calls Tryd.prog 41 #[.pointer (some ⟨B, 0, none⟩)] w fun e w' => e = .returned (tkV tk (p, l)) ∧ Mv B T (tk p).to (if (tk p).kind = 7 then l + 1 else l) false w w'
theorem Sb.box {B : Nat} {T : ByteArray} {k l : Int} {st : Bool} {w : World} (h : Sb B T k l st w) : ∃ o : Obj, w.heap[B]? = some o := ⟨_, h⟩
set_option maxRecDepth 100000 in
set_option maxHeartbeats 2000000 in
theorem iter_in (n : Nat) (hn : 1 ≤ n) (lp Bb B : Nat) (T : ByteArray) (L : List UInt8) (hT : T.data.toList = L) (hlen : T.size ≤ 65536) (tk : Nat → Tk) (ok : TkOk L tk) (htok : TokC B T L tk) (hB9 : 8 ≤ B)
    (xs : List (Nat × Int)) (J : List (Nat × Int) → World → Prop)
    (hJ : ∀ pre W W', J pre W → Kb B W W' → J pre W') (hJb : ∀ pre W, J pre W → W.cell? ⟨Bb, 0, none⟩ = some (.pointer (some ⟨B, 0, none⟩)) ∧ Gd W)
    (hY : ∀ pre x W, J pre W → pre.length < xs.length → YieldAt Fence.wide (n - 1) Tryd.prog lp #[tkV tk x] W fun e W' => e = .returned (.bool true) ∧ J (pre ++ [x]) W' ∧ W'.heap[B]? = W.heap[B]?)
    (e : Nat) (st : Bool) (hrun : Run L tk (bl L 0) 1 xs e st) (W : World) (hS : Sb B T 0 1 false W) (h0 : J [] W) :
    CallsIn Fence.wide n Tryd.prog 38 #[.func (.yield lp) #[] #[], .pointer (some ⟨Bb, 0, none⟩)] W fun en W' => (∃ v, en = .returned v) ∧ J xs W' ∧ ∃ l, Sb B T e l st W' := by
  have hsz : T.size = L.length := by rw [← hT]; simp
  have HBL : Hid (∀ (k : Nat) (l : Int) (w : World), k ≤ T.size → Sb B T k l false w → Calls Tryd.prog 39 #[.pointer (some ⟨B, 0, none⟩)] w fun e w' => e = .returned (.tuple #[]) ∧ Mv B T (bl L k : Nat) l false w w') := (fun k l w hk h => impl_blanks L hT hlen hk w h : ∀ (k : Nat) (l : Int) (w : World), k ≤ T.size → Sb B T k l false w → Calls Tryd.prog 39 #[.pointer (some ⟨B, 0, none⟩)] w fun e w' => e = .returned (.tuple #[]) ∧ Mv B T (bl L k : Nat) l false w w')
  have cb := (hJb [] W h0).1
  have hb0 := (show ∀ (k : Nat) (l : Int) (w : World), _ from HBL) 0 1 W (Nat.zero_le _) hS
  refine callsIn_of_wp Tryd.func38 rfl trivial ?_ rfl
  simp only [Tryd.ntmps38, List.size_toArray, List.length_cons, List.length_nil, Nat.reduceAdd, Nat.reduceSub, Array.replicate_succ, Array.replicate_zero, List.push_toArray, List.append_toArray, List.nil_append, List.cons_append]
  gi_wp2_with fail
  refine ⟨trivial, (callsIn_wide.2 hb0).mono ?_⟩
  rintro en w1 ⟨rfl, m1⟩
  have hbl0 := bl_le L 0 (Nat.zero_le _)
  have HS1 : Hid (Sb B T (bl L 0 : Nat) 1 false w1 ∧ J [] w1) := (⟨m1.2, hJ [] W w1 h0 m1.1⟩ : _ ∧ _)
  have HRUN : Hid (Run L tk (bl L 0) 1 xs e st) := hrun
  have HJ : Hid (∀ pre W W', J pre W → Kb B W W' → J pre W') := hJ
  have HJB : Hid (∀ pre W, J pre W → W.cell? ⟨Bb, 0, none⟩ = some (.pointer (some ⟨B, 0, none⟩)) ∧ Gd W) := hJb
  have HY : Hid (∀ pre x W, J pre W → pre.length < xs.length → YieldAt Fence.wide (n - 1) Tryd.prog lp #[tkV tk x] W fun e W' => e = .returned (.bool true) ∧ J (pre ++ [x]) W' ∧ W'.heap[B]? = W.heap[B]?) := hY
  have HTK : Hid (TokC B T L tk) := htok
  have HOK : Hid (TkOk L tk) := ok
  have HB9 : Hid (8 ≤ B) := hB9
  have HTT : Hid (T.data.toList = L) := hT
  have HLN : Hid (T.size ≤ 65536) := hlen
  clear hB9 hb0 m1 cb hrun hJ hJb hY htok ok hT hlen hS h0
  gi_wp2_with fail
  gi_loopw [] (fun wr => ∃ (p : Nat) (l : Int) (pre rest : List (Nat × Int)), p ≤ L.length ∧ Hid (xs = pre ++ rest ∧ Run L tk p l rest e st ∧ 0 ≤ l ∧ l ≤ (p : Int) + 1 ∧ Sb B T p l false wr ∧ J pre wr)) (fun wr => L.length - atOf B wr)
  case atStart => exact ⟨bl L 0, 1, [], xs, hbl0, (⟨rfl, HRUN, by omega, by omega, HS1.1, HS1.2⟩ : _ ∧ _ ∧ _ ∧ _ ∧ _ ∧ _)⟩
  case round =>
    clear HS1 HRUN
    obtain ⟨p, l, pre, rest, hp, HR⟩ := hrel
    obtain ⟨hx, hrun, hl0, hl1, hS, hJp⟩ := (show xs = pre ++ rest ∧ Run L tk p l rest e st ∧ 0 ≤ l ∧ l ≤ (p : Int) + 1 ∧ Sb B T p l false wr ∧ J pre wr from HR)
    clear HR
    obtain ⟨cb, hG⟩ := (show ∀ pre W, J pre W → _ from HJB) pre wr hJp
    have hat := atOf_sb hS
    rcases hrun.inv with ⟨r1, r2, r3, r4⟩ | ⟨r1, r2, r3, r4, r5⟩ | ⟨ts, r1, r2, r3, r4⟩
    · have he := ended_mv true (by simp; omega) wr hS
      have HF : Hid (∀ w1, Mv B T p l false wr w1 → J xs w1 ∧ ∃ l, Sb B T e l st w1) := (fun w1 m1 => ⟨by rw [hx, r1, List.append_nil]; exact (show ∀ pre W W', _ from HJ) pre wr w1 hJp m1.1, l, by rw [r3, r4]; exact m1.2⟩ : ∀ w1, Mv B T p l false wr w1 → J xs w1 ∧ ∃ l, Sb B T e l st w1)
      clear HJ HJB HY HTK HOK HTT HLN HBL hx hS hJp hG hat hl0 hl1 hrun r1 r2 r3 r4
      gi_wp2_with fail
      refine ⟨trivial, (callsIn_wide.2 he).mono ?_⟩
      rintro en w1 ⟨rfl, m1⟩
      have hF := (show ∀ w1, _ → _ from HF) w1 m1
      clear he HF m1
      gi_wp2_with fail
      go_end0
      exact ⟨⟨_, rfl⟩, hF⟩
    · have he := ended_mv false (by simp; omega) wr hS
      have ht := fun w1 (m1 : Mv B T p l false wr w1) => (show TokC B T L tk from HTK) p l w1 r2 hl0 hl1 (hG.kb (show 8 ≤ B from HB9) m1.1) m1.2
      have hcb := fun w1 (m1 : Kb B wr w1) => ((show ∀ pre W, J pre W → _ from HJB) pre w1 ((show ∀ pre W W', _ from HJ) pre wr w1 hJp m1)).1
      have hk0 : ((tk p).kind == 0) = true := by simpa using r3
      have n7 : ¬ (tk p).kind = 7 := by rw [r3]; decide
      have HF : Hid (∀ w1, Kb B wr w1 → J xs w1) := (fun w1 m1 => by rw [hx, r1, List.append_nil]; exact (show ∀ pre W W', _ from HJ) pre wr w1 hJp m1 : ∀ w1, Kb B wr w1 → J xs w1)
      have HE : Hid (e = (tk p).to ∧ st = true) := (⟨r4, r5⟩ : _ ∧ _)
      clear HJ HJB HY HTK HOK HTT HLN HBL hx hS hJp hG hat hl0 hl1 hrun r1 r2 r3 r4 r5
      gi_wp2_with fail
      refine ⟨trivial, (callsIn_wide.2 he).mono ?_⟩
      rintro en w1 ⟨rfl, m1⟩
      have ht1 := ht w1 m1
      have cb1 := hcb w1 m1.1
      rw [if_neg n7] at ht1
      unfold tkV tokV at ht1
      clear he ht cb
      gi_wp2_with fail
      refine ⟨trivial, (callsIn_wide.2 ht1).mono ?_⟩
      rintro en w2 ⟨rfl, m2⟩
      clear ht1 cb1
      have m12 := m1.trans m2
      have hz := m12
      obtain ⟨A, hA⟩ : ∃ A, A = w2.alloc (.cells #[.int .i64 (tk p).kind, .int .i64 p, .int .i64 (tk p).to, .int .i64 l, .int .i64 (tk p).num, .string (tk p).text] 33) := ⟨_, rfl⟩
      have mA : Mv B T (tk p).to l false wr A := m12.trans (by rw [hA]; exact Mv.below m12.2 ((Below.refl _ w2).alloc (Nat.le_refl _) _) (Nat.le_refl _))
      have cbA := hcb A mA.1
      have fA := mA.2.fz 3
      have cA := mA.2.c3
      have HM : Hid (Mv B T (tk p).to l false wr A) := mA
      rw [hA] at cbA fA cA
      clear m1 m2 m12 hz hcb mA
      gi_wp2_with fail
      rw [← hA]
      refine bodyPost_ret (results_none rfl _ _ _) rfl ?_
      have hM := (show Mv B T (tk p).to l false wr A from HM)
      have hEE := (show e = (tk p).to ∧ st = true from HE)
      refine ⟨⟨_, rfl⟩, (show ∀ w1, Kb B wr w1 → J xs w1 from HF) _ (hM.1.setCell 3 _), l, ?_⟩
      rw [hEE.1, hEE.2]
      exact hM.2.set3 _
    · have he := ended_mv false (by simp; omega) wr hS
      have ht := fun w1 (m1 : Mv B T p l false wr w1) => (show TokC B T L tk from HTK) p l w1 r2 hl0 hl1 (hG.kb (show 8 ≤ B from HB9) m1.1) m1.2
      have hcb := fun w1 (m1 : Kb B wr w1) => ((show ∀ pre W, J pre W → _ from HJB) pre w1 ((show ∀ pre W W', _ from HJ) pre wr w1 hJp m1)).1
      have hk0 : ((tk p).kind == 0) = false := by simpa using r3
      have hto1 := (show TkOk L tk from HOK).lt p r2 r3
      have hto2 := (show TkOk L tk from HOK).le p r2
      obtain ⟨l', hl', hl0', hl1'⟩ : ∃ l' : Int, l' = (if (tk p).kind = 7 then l + 1 else l) ∧ 0 ≤ l' ∧ l' ≤ ((tk p).to : Int) + 1 := by
        refine ⟨_, rfl, ?_, ?_⟩
        · split <;> omega
        · split <;> omega
      rw [← hl'] at r4
      have hyl := fun A (mA : Kb B wr A) => (show ∀ pre x W, J pre W → pre.length < xs.length → _ from HY) pre (p, l) A ((show ∀ pre W W', _ from HJ) pre wr A hJp mA) (by rw [hx, r1]; simp)
      have hbl := bl_le L (tk p).to hto2
      have hblg := bl_ge L (tk p).to
      have HN : Hid (∀ W3 W4, J (pre ++ [(p, l)]) W3 → Mv B T (bl L (tk p).to : Nat) l' false W3 W4 → ((∃ (p : Nat) (l : Int) (pre rest : List (Nat × Int)), p ≤ L.length ∧ Hid (xs = pre ++ rest ∧ Run L tk p l rest e st ∧ 0 ≤ l ∧ l ≤ (p : Int) + 1 ∧ Sb B T p l false W4 ∧ J pre W4)) ∧ L.length - atOf B W4 < L.length - atOf B wr)) :=
        (fun W3 W4 hJ3 m4 => ⟨⟨bl L (tk p).to, l', pre ++ [(p, l)], ts, hbl, (⟨by rw [hx, r1]; simp, r4, hl0', by omega, m4.2, (show ∀ pre W W', _ from HJ) _ W3 W4 hJ3 m4.1⟩ : _ ∧ _ ∧ _ ∧ _ ∧ _ ∧ _)⟩, by rw [atOf_sb m4.2, hat]; omega⟩ : ∀ W3 W4, J (pre ++ [(p, l)]) W3 → Mv B T (bl L (tk p).to : Nat) l' false W3 W4 → ((∃ (p : Nat) (l : Int) (pre rest : List (Nat × Int)), p ≤ L.length ∧ Hid (xs = pre ++ rest ∧ Run L tk p l rest e st ∧ 0 ≤ l ∧ l ≤ (p : Int) + 1 ∧ Sb B T p l false W4 ∧ J pre W4)) ∧ L.length - atOf B W4 < L.length - atOf B wr))
      have hskip := fun W3 (s3 : Sb B T (tk p).to l' false W3) => (show ∀ (k : Nat) (l : Int) (w : World), _ from HBL) (tk p).to l' W3 (by omega) s3
      have hcb3 := fun W3 (h3 : J (pre ++ [(p, l)]) W3) => ((show ∀ pre W, J pre W → _ from HJB) _ W3 h3).1
      clear HJ HJB HY HTK HOK HTT HLN HBL hx hS hJp hG hat hl0 hl1 hrun r1 r2 r3 r4 hl0' hl1' hto1 hto2 hbl hblg
      gi_wp2_with fail
      refine ⟨trivial, (callsIn_wide.2 he).mono ?_⟩
      rintro en w1 ⟨rfl, m1⟩
      have ht1 := ht w1 m1
      have cb1 := hcb w1 m1.1
      rw [← hl'] at ht1
      unfold tkV tokV at ht1
      clear he ht cb hl'
      gi_wp2_with fail
      refine ⟨trivial, (callsIn_wide.2 ht1).mono ?_⟩
      rintro en w2 ⟨rfl, m2⟩
      clear ht1 cb1
      have m12 := m1.trans m2
      obtain ⟨A, hA⟩ : ∃ A, A = w2.alloc (.cells #[.int .i64 (tk p).kind, .int .i64 p, .int .i64 (tk p).to, .int .i64 l, .int .i64 (tk p).num, .string (tk p).text] 33) := ⟨_, rfl⟩
      have mA : Mv B T (tk p).to l' false wr A := m12.trans (by rw [hA]; exact Mv.below m12.2 ((Below.refl _ w2).alloc (Nat.le_refl _) _) (Nat.le_refl _))
      obtain ⟨fn, tmps, assign, body, hy, hR⟩ := hyl A mA.1
      have hsA := mA.2
      unfold tkV tokV at hy
      dsimp only at hy
      rw [hA] at hy hR
      have HSA : Hid (Sb B T (tk p).to l' false A) := hsA
      clear m1 m2 m12 hcb mA hyl hsA
      gi_wp2_with fail
      refine hR.mono ?_
      rintro en W3 ⟨rfl, hJ3, hB3⟩
      have hS3 : Sb B T (tk p).to l' false W3 := by rw [hA] at HSA; exact hB3.trans HSA
      have hsk := hskip W3 hS3
      have cb3 := hcb3 W3 hJ3
      have HN3 : Hid (∀ W4, Mv B T (bl L (tk p).to : Nat) l' false W3 W4 → _) := (fun W4 m4 => (show ∀ W3 W4, _ from HN) W3 W4 hJ3 m4)
      clear HN hR hy hB3 hS3 hJ3 hskip hcb3 HSA
      gi_wp2_with fail
      refine ⟨trivial, (callsIn_wide.2 hsk).mono ?_⟩
      rintro en W4 ⟨rfl, m4⟩
      have hN := (show ∀ W4, _ from HN3) W4 m4
      clear hsk HN3 m4 cb3
      gi_wp2_with fail
      exact hN
end Go.Proofs.YtogenhnonjkanaaDoor
namespace Go.Proofs.YtogenhnonjkanaaDoor
open Go.ChangeShapes Go.WideShapes Go.ChangeAt Go.RowKit Go.Shelf
set_option linter.unusedVariables false
attribute [local go_sem] Oper.semAt_some
/-- how a round's body ends -/
def bodyEnd {α : Type} (n₀ B : Nat) (I : List α → World → Prop) (xs : List α) (W : World) : Exit → Act → World → Prop
  | .normal, _, W' => KeepsFrom n₀ W W' ∧ I xs W' ∧ W'.heap[B]? = W.heap[B]?
  | _, _, _ => False
/-- a range over a function that keeps a state of its own in block B; its body goes on in every round -/
theorem wpIn_rangeFunc_st {α : Type} {P : Program} {n : Nat} {g : Operand} {ps : Array Tmp} {assign body : Code} {Q : Exit → Act → World → Prop} {a : Act} {w : World}
    (h1 : 1 ≤ n) {gf : Nat} {lb : Array Value} (hg : a.eval g = .func (.func gf) #[] lb) (eg : ∀ args w, (callFunc gf args).run P w = .ok (.enter gf args) w)
    {encs : α → Array Value} (hps : ∀ x, (encs x).size = ps.size) (B : Nat) (hB : B < w.heap.size) (xs : List α) (E : World → Prop)
    (I : List α → World → Prop) (hI : OwnFrom w.heap.size I) (hIK : ∀ s W W', I s W → Kb B W W' → I s W') (h0 : I [] w)
    (hE : ∀ W l o', w.heap.size ≤ l → E W → E (W.putObj l o'))
    (hiter : ∀ (lp : Nat) (J : List α → World → Prop) (W : World), Below w.heap.size w W → (∀ pre W W', J pre W → Kb B W W' → J pre W') → (∀ pre W, J pre W → I pre W) →
      (∀ pre x W, J pre W → pre.length < xs.length → YieldAt Fence.wide (n - 1 - 1) P lp (encs x) W fun e W' => e = .returned (.bool true) ∧ J (pre ++ [x]) W' ∧ W'.heap[B]? = W.heap[B]?) → J [] W →
      CallsIn Fence.wide (n - 1) P gf (#[.func (.yield lp) #[] #[]] ++ lb) W fun en W' => (∃ v, en = .returned v) ∧ J xs W' ∧ E W')
    (obj : α → Obj) (a₁ : α → Nat → Act)
    (hassign : ∀ (l : Nat) (x : α) (W : World) (K : Act → World → Prop), K (a₁ x W.heap.size) (W.alloc (obj x)) →
      assign.wpIn (Fence.wide.inRound l) (n - 1 - 1) P (Exit.then K (fun _ _ _ => False)) { tmps := (ps.zip (encs x)).foldl (fun t (p, v) => t.setIfInBounds p v) a.tmps, defers := [] } W)
    (hbody : ∀ (l : Nat) (pre : List α) (x : α) (bx : Nat) (W : World), pre.length < xs.length → I pre W → w.heap.size ≤ bx → W.heap[bx]? = some (obj x) →
      body.wpIn (Fence.wide.inRound l) (n - 1 - 1) P (bodyEnd w.heap.size B I (pre ++ [x]) W) (a₁ x bx) W)
    (hdone : ∀ (D : Nat) (W : World), w.heap.size ≤ D → I xs W → E W → W.heap[D]? = some (.deferred (some [])) → Q .normal { a with defers := { target := .collected D, args := #[] } :: a.defers } W) :
    (Code.rangeFunc g ps assign body).wpIn Fence.wide n P Q a w := by
  refine wpIn_rangeFunc ?_
  intro fn hfn
  rw [show Fence.wide.round = none from rfl]
  obtain ⟨rec, hrec⟩ : ∃ rec : LoopState → Option Code → Loop, rec = fun st pe => { state := st, pending := pe, fn, tmps := a.tmps, params := ps, assign, body, defers := w.heap.size } := ⟨_, rfl⟩
  obtain ⟨W1, hW1⟩ : ∃ W1, (w.alloc (.deferred (some []))).alloc (.loop (rec .ready none)) = W1 := ⟨_, rfl⟩
  have hL1 : W1.heap[w.heap.size + 1]? = some (.loop (rec .ready none)) := by
    rw [← hW1]; have := World.alloc_heap_new (w.alloc (.deferred (some []))) (.loop (rec .ready none)); rwa [World.size_alloc] at this
  have hK1 : W1.heap[w.heap.size]? = some (.deferred (some [])) := by
    rw [← hW1]; exact (Below.heap_alloc _ _ _ (by simp)).trans (World.alloc_heap_new w _)
  have hI1 : I [] W1 := by rw [← hW1]; exact hI.alloc _ (hI.alloc _ h0)
  have hb1 : Below w.heap.size w W1 := by
    rw [← hW1]; exact ((Below.refl _ w).alloc (Nat.le_refl _) _).alloc (by simp) _
  refine ⟨w.heap.size + 1, [{ target := .collected w.heap.size, args := #[] }], W1, { target := .fn (.func gf) lb, args := #[.func (.yield (w.heap.size + 1)) #[] #[]] }, W1, gf,
    #[.func (.yield (w.heap.size + 1)) #[] #[]] ++ lb, W1, ?_, ?_, ?_, ?_, fun _ => h1, ?_⟩
  · rw [← hW1, hrec]; exact run_enterLoop_outer _ _ _ _ _
  · simp only [resolve, hg]
    simp [go_sem]
  · intro f' hf'; trivial
  · simp [invoke, go_sem, eg]
  · refine (hiter (w.heap.size + 1)
      (fun pre W => I pre W ∧ W.heap[w.heap.size + 1]? = some (.loop (rec .ready none)) ∧ W.heap[w.heap.size]? = some (.deferred (some [])))
      W1 hb1 ?_ (fun pre W h => h.1) ?_ ⟨hI1, hL1, hK1⟩).mono ?_
    · rintro pre W W' ⟨hi, hl, hk⟩ hkb
      have l1 : w.heap.size + 1 < W.heap.size := (Array.getElem?_eq_some_iff.1 hl).1
      exact ⟨hIK _ _ _ hi hkb, (hkb.block _ l1 (by omega)).trans hl, (hkb.block _ (by omega) (by omega)).trans hk⟩
    · rintro pre x W ⟨hi, hl, hk⟩ hlen
      have hlt : w.heap.size + 1 < W.heap.size := (Array.getElem?_eq_some_iff.1 hl).1
      have hy := run_yield (P := P) (args := encs x) hl (by rw [hrec]; exact hps x)
      rw [hrec] at hy
      have hlA : (W.alloc (obj x)).heap[w.heap.size + 1]? = some (.loop (rec .ready none)) := (Below.heap_alloc _ _ _ hlt).trans hl
      have hkA : (W.alloc (obj x)).heap[w.heap.size]? = some (.deferred (some [])) := (Below.heap_alloc _ _ _ (by omega)).trans hk
      refine ⟨fn, _, assign, body, hy, roundIn_of_wpIn hfn (hassign _ x W _ ⟨_, run_beginRound hlA (by rw [hrec]), ?_⟩)⟩
      obtain ⟨W2, hW2⟩ : ∃ W2, (W.alloc (obj x)).putObj (w.heap.size + 1) (.loop { rec .ready none with state := .busy }) = W2 := ⟨_, rfl⟩
      rw [hW2]
      have hl2 : W2.heap[w.heap.size + 1]? = some (.loop { rec .ready none with state := .busy }) := by rw [← hW2]; exact World.putObj_heap_same (by simp; omega)
      have hk2 : W2.heap[w.heap.size]? = some (.deferred (some [])) := by rw [← hW2]; exact (World.putObj_heap_other (by omega)).trans hkA
      have hi2 : I pre W2 := by rw [← hW2]; exact hI.putObj _ (hI.alloc _ hi) (by omega) hlA rfl
      have hx2 : W2.heap[W.heap.size]? = some (obj x) := by rw [← hW2]; exact (World.putObj_heap_other (by omega)).trans (World.alloc_heap_new W _)
      have hB2 : W2.heap[B]? = W.heap[B]? := by rw [← hW2]; exact (World.putObj_heap_other (by omega)).trans (Below.heap_alloc _ _ _ (by omega))
      refine wpIn_mono (hbody _ pre x W.heap.size W2 hlen hi2 (by omega) hx2) ?_
      rintro e a3 W3 hp
      cases e with
      | normal =>
        obtain ⟨hk3, hi3, hB3⟩ := hp
        have hl3 := hk3.same _ _ (by omega) hl2 rfl
        have hr := run_endRound (P := P) none hl3
        rw [hrec] at hr hl3 ⊢
        refine ⟨_, _, hr, rfl, ⟨hI.putObj _ hi3 (by omega) hl3 rfl, World.putObj_heap_same (Array.getElem?_eq_some_iff.1 hl3).1, (World.putObj_heap_other (by omega)).trans (hk3.same _ _ (by omega) hk2 rfl)⟩, ?_⟩
        exact (World.putObj_heap_other (by omega)).trans (hB3.trans hB2)
      | ret => exact hp.elim
      | exit id => exact hp.elim
      | goto t => exact hp.elim
      | panic ch => exact hp.elim
      | outgrown => exact hp.elim
    · rintro e W2 ⟨⟨v, rfl⟩, ⟨hi, hl, hk⟩, hE2⟩
      exact ⟨none, _, by have := run_endLoop (P := P) hl (by rw [hrec]; simp); rw [hrec] at this; exact this, hdone _ _ (Nat.le_refl _) (hI.putObj _ hi (by omega) hl rfl) (hE _ _ _ (by omega) hE2) ((World.putObj_heap_other (by omega)).trans hk)⟩
theorem impl_tokens (B : Nat) (w : World) : Calls Tryd.prog 16 #[.pointer (some ⟨B, 0, none⟩)] w fun e w' => e = .returned (.func (.func 38) #[] #[.pointer (some ⟨w.heap.size, 0, none⟩)]) ∧ w' = w.alloc (.cells #[.pointer (some ⟨B, 0, none⟩)] 59) := by
  go_enter Tryd.func16, Tryd.ntmps16
  go_wp2
  go_ret
  exact ⟨rfl, rfl⟩
end Go.Proofs.YtogenhnonjkanaaDoor
namespace Go.Proofs.YtogenhnonjkanaaDoor
open Go.ChangeShapes Go.WideShapes Go.ChangeAt Go.RowKit Go.Shelf
set_option linter.unusedVariables false
attribute [local go_sem] Oper.semAt_some
def tcs (tk : Nat → Tk) (x : Nat × Int) : List Value := [.int .i64 (tk x.1).kind, .int .i64 x.1, .int .i64 (tk x.1).to, .int .i64 x.2, .int .i64 (tk x.1).num, .string (tk x.1).text]
theorem rowKb {W W' : World} {base e size : Nat} {v : Value} {n : Nat} {xs : List Value} {B : Nat} (h : W.ownsRow base e size v n xs) (hk : Kb B W W') (hB : B < base) : W'.ownsRow base e size v n xs := by
  refine ⟨h.1, ?_⟩
  rcases h.2 with h | ⟨g, cap, cur, e1, e2, e3, e4⟩
  · exact .inl h
  · exact .inr ⟨g, cap, cur, e1, e2, (hk.block g (Array.getElem?_eq_some_iff.1 e3).1 (by omega)).trans e3, e4⟩
theorem rowBlk {W W' : World} {base e size : Nat} {v : Value} {n : Nat} {xs : List Value} (h : W.ownsRow base e size v n xs) (hk : ∀ g, v.ownBlock = some g → W'.heap[g]? = W.heap[g]?) : W'.ownsRow base e size v n xs := by
  refine ⟨h.1, ?_⟩
  rcases h.2 with h | ⟨g, cap, cur, e1, e2, e3, e4⟩
  · exact .inl h
  · exact .inr ⟨g, cap, cur, e1, e2, (hk g (by rw [e1]; rfl)).trans e3, e4⟩
theorem ownsRow_mono' {W : World} {base base' e size : Nat} {v : Value} {n : Nat} {xs : List Value} (h : W.ownsRow base e size v n xs) (hb : base' ≤ base) : W.ownsRow base' e size v n xs := by
  refine ⟨h.1, ?_⟩
  rcases h.2 with h | ⟨g, cap, cur, e1, e2, e3⟩
  · exact .inl h
  · exact .inr ⟨g, cap, cur, e1, by omega, e3⟩
/-- the tables, by their blocks -/
theorem Gd.blk {a w : World} (h : Gd a) (hk : ∀ i, i < 8 → w.heap[i]? = a.heap[i]?) (hs : 8 ≤ w.heap.size) : Gd w := by
  have e : ∀ (g : Nat) (j : Nat), g < 8 → w.cell? ⟨g, j, none⟩ = a.cell? ⟨g, j, none⟩ := fun g j hg => World.cell?_of_block (hk g hg)
  refine ⟨fun j v hv => ?_, fun j v hv => ?_, fun j v hv => ?_, ?_, ?_, hs⟩
  · rw [e 0 _ (by omega)]; exact h.words j v hv
  · rw [e 1 _ (by omega)]; exact h.marks j v hv
  · rw [e 2 _ (by omega)]; exact h.infx j v hv
  · rw [e 7 0 (by omega)]; exact h.err7
  · rw [e 6 0 (by omega)]; exact h.err6
/-- between two rounds: n the heap's size at the call's beginning -/
structure Iv (n : Nat) (w : World) (tk : Nat → Tk) (pre : List (Nat × Int)) (W : World) : Prop where
  os : W.os = w.os
  output : W.output = w.output
  size : n + 4 ≤ W.heap.size
  old : ∀ i, i < n → W.heap[i]? = w.heap[i]?
  res : W.heap[n]? = some (.cells #[.bool false, .int .i64 0, .slice none 0 0] 24 (0, 0))
  box : W.heap[n + 3]? = some (.cells #[.pointer (some ⟨n + 1, 0, none⟩)] 59 (0, 0))
  row : ∃ v, W.heap[n + 2]? = some (.cells #[v] 22 (0, 0)) ∧ W.ownsRow (n + 4) 33 6 v pre.length (pre.flatMap (tcs tk))
theorem Iv.kb {n : Nat} {w : World} {tk : Nat → Tk} {pre : List (Nat × Int)} {W W' : World} (h : Iv n w tk pre W) (hk : Kb (n + 1) W W') : Iv n w tk pre W' := by
  have hs := h.size
  obtain ⟨v, hv, hr⟩ := h.row
  exact ⟨hk.os.trans h.os, hk.output.trans h.output, Nat.le_trans hs hk.size, fun i hi => (hk.block i (by omega) (by omega)).trans (h.old i hi), (hk.block n (by omega) (by omega)).trans h.res,
    (hk.block (n + 3) (by omega) (by omega)).trans h.box, v, (hk.block (n + 2) (by omega) (by omega)).trans hv, rowKb hr hk (by omega)⟩
theorem Iv.own (n : Nat) (w : World) (tk : Nat → Tk) : OwnFrom (n + 4) (Iv n w tk) := by
  intro pre W W' row h hg hr
  have hs := h.size
  obtain ⟨v, hv, hrow⟩ := h.row
  have hb : ∀ i, i < n + 4 → W'.heap[i]? = W.heap[i]? := fun i hi => hg.block i (by omega) (fun e => by have := (hr i e.symm).1; omega)
  refine ⟨hg.os.trans h.os, hg.output.trans h.output, Nat.le_trans hs hg.size, fun i hi => (hb i (by omega)).trans (h.old i hi), (hb n (by omega)).trans h.res, (hb (n + 3) (by omega)).trans h.box, v, (hb (n + 2) (by omega)).trans hv, ?_⟩
  refine rowBlk hrow (fun g e => ?_)
  obtain ⟨_, hlt⟩ := hrow.lt g e
  refine hg.block g hlt (fun e2 => ?_)
  obtain ⟨_, o, ho, hc⟩ := hr g e2.symm
  rcases hrow.2 with ⟨rfl, _⟩ | ⟨g', cap, cur, e3, _, e4, _⟩
  · cases e
  · rw [e3] at e
    cases e
    rw [e4] at ho
    cases ho
    cases hc
theorem Iv.gd {n : Nat} {w : World} {tk : Nat → Tk} {pre : List (Nat × Int)} {W : World} (h : Iv n w tk pre W) (hg : Gd w) (hn : n = w.heap.size) : Gd W := by
  have := hg.size
  have hs := h.size
  exact hg.blk (fun i hi => h.old i (by omega)) (by omega)
def st3 (W : World) (n : Nat) (a b c : Value) : World := (((W.setCell ⟨n, 0, none⟩ a).setCell ⟨n, 1, none⟩ b).setCell ⟨n, 2, none⟩ c)
theorem st3_heap {W : World} {n : Nat} {x y z : Value} (h : W.heap[n]? = some (.cells #[x, y, z] 24 (0, 0))) (a b c : Value) : (st3 W n a b c).heap[n]? = some (.cells #[a, b, c] 24 (0, 0)) := by
  simp [st3, World.setCell, Array.getElem?_modify, h]
theorem st3_other {W : World} {n : Nat} (a b c : Value) (i : Nat) (hi : i ≠ n) : (st3 W n a b c).heap[i]? = W.heap[i]? := by
  unfold st3
  rw [Below.heap_setCell _ _ _ _ hi, Below.heap_setCell _ _ _ _ hi, Below.heap_setCell _ _ _ _ hi]
/-- what the answer is -/
def scanV (e : Nat) (st : Bool) (v : Value) : Value := if st then .agg #[.bool false, .int .i64 e, .slice none 0 0] else .agg #[.bool true, .int .i64 0, v]
theorem infoTok : (Tryd.prog.info? 33).map (fun i => (i.zero, i.size, i.bytes)) = some (some (.agg #[.int .i64 0, .int .i64 0, .int .i64 0, .int .i64 0, .int .i64 0, .string ⟨#[]⟩]), 6, 56) := by kernel_rfl
set_option maxRecDepth 100000 in
set_option maxHeartbeats 2000000 in
theorem impl_scan (T : ByteArray) (L : List UInt8) (hT : T.data.toList = L) (hlen : T.size ≤ 65536) (tk : Nat → Tk) (ok : TkOk L tk) (xs : List (Nat × Int)) (e : Nat) (st : Bool) (hrun : Run L tk (bl L 0) 1 xs e st) (w : World) (hg : Gd w)
    (htok : ∀ B, 8 ≤ B → TokC B T L tk) (hxl : xs.length ≤ 65536) :
    Calls Tryd.prog 6 #[.string T] w fun en w' => w.keptBut w' (fun _ => False) ∧ ∃ v, en = .returned (scanV e st v) ∧ (st = false → w'.ownsRow w.heap.size 33 6 v xs.length (xs.flatMap (tcs tk))) := by
  have hI : ¬ (65536 : Int) < (T.size : Int) := by omega
  have h9 := hg.size
  have HTO := fun W => impl_tokens (w.heap.size + 1) W
  refine (callsIn_wide (n := 3)).1 ?_
  refine callsIn_of_wp_marks Tryd.func6 rfl trivial ?_ rfl
  simp only [Tryd.ntmps6, List.size_toArray, List.length_cons, List.length_nil, Nat.reduceAdd, Nat.reduceSub, Array.replicate_succ, Array.replicate_zero, List.push_toArray, List.append_toArray, List.nil_append, List.cons_append]
  gi_wp2_with fail
  refine ⟨trivial, (callsIn_wide.2 (HTO _)).mono ?_⟩
  rintro en w4 ⟨rfl, hw4⟩
  gi_wp2_with fail
  rw [← hw4]
  have hsz : w4.heap.size = w.heap.size + 4 := by rw [hw4]; simp
  have hst : Iv w.heap.size w tk [] w4 := by
    refine ⟨by rw [hw4]; rfl, by rw [hw4]; rfl, by omega, fun i hi => ?_, ?_, ?_, .slice none 0 0, ?_, World.ownsRow_nil _ _ _ _⟩
    · rw [hw4, Below.heap_alloc _ _ _ (by simp; omega), Below.heap_alloc _ _ _ (by simp; omega), Below.heap_alloc _ _ _ (by simp; omega), Below.heap_alloc _ _ _ hi]
    · rw [hw4, Below.heap_alloc _ _ _ (by simp; omega), Below.heap_alloc _ _ _ (by simp; omega), Below.heap_alloc _ _ _ (by simp)]; exact World.alloc_heap_new _ _
    · rw [hw4]
      have := World.alloc_heap_new (((w.alloc (Obj.cells #[Value.bool false, Value.int IntKind.i64 0, Value.slice none 0 0] 24)).alloc (Obj.cells #[Value.string T, Value.int IntKind.i64 0, Value.int IntKind.i64 1, Value.bool false] 42)).alloc (Obj.cells #[Value.slice none 0 0] 22)) (Obj.cells #[Value.pointer (some { block := w.heap.size + 1, off := 0 })] 59)
      simpa using this
    · rw [hw4, Below.heap_alloc _ _ _ (by simp)]
      have := World.alloc_heap_new ((w.alloc (Obj.cells #[Value.bool false, Value.int IntKind.i64 0, Value.slice none 0 0] 24)).alloc (Obj.cells #[Value.string T, Value.int IntKind.i64 0, Value.int IntKind.i64 1, Value.bool false] 42)) (Obj.cells #[Value.slice none 0 0] 22)
      simpa using this
  have hsb : Sb (w.heap.size + 1) T 0 1 false w4 := by
    unfold Sb
    rw [hw4, Below.heap_alloc _ _ _ (by simp), Below.heap_alloc _ _ _ (by simp)]
    have := World.alloc_heap_new (w.alloc (Obj.cells #[Value.bool false, Value.int IntKind.i64 0, Value.slice none 0 0] 24)) (Obj.cells #[Value.string T, Value.int IntKind.i64 0, Value.int IntKind.i64 1, Value.bool false] 42)
    simpa using this
  clear hw4 HTO
  refine wpIn_rangeFunc_st (α := Nat × Int) (n := 3) (by omega) (gf := 38) (lb := #[.pointer (some ⟨w.heap.size + 1 + 1 + 1, 0, none⟩)]) rfl (enters_of Tryd.func38 (by kernel_rfl) rfl) (encs := fun x => #[tkV tk x]) (fun _ => rfl)
    (w.heap.size + 1) (by omega) xs (fun W => ∃ l, Sb (w.heap.size + 1) T e l st W) (Iv w.heap.size w tk) (by rw [hsz]; exact Iv.own _ _ _) (fun _ _ _ h hk => h.kb hk) hst ?E ?iter (fun x => .cells (tcs tk x).toArray 33)
    (fun x bx => { tmps := #[.string T, undef, .pointer (some ⟨w.heap.size, 0, none⟩), .pointer (some ⟨w.heap.size + 1, 0, none⟩), .pointer (some ⟨w.heap.size + 1 + 1, 0, none⟩), .pointer (some ⟨bx, 0, none⟩), .string T,
      .int .i64 (T.size : Int), .bool false, undef, .string T, .agg #[.string T, .int .i64 0], .agg #[.string T, .int .i64 0, .int .i64 1, .bool false],
      .func (.func 38) #[] #[.pointer (some ⟨w.heap.size + 1 + 1 + 1, 0, none⟩)], tkV tk x, undef, undef, undef, undef, undef, undef, undef, undef, undef, undef, undef, undef], defers := [] }) ?assign ?body ?done
  case E =>
    rintro W lp o' hl ⟨l, h⟩
    exact ⟨l, (World.putObj_heap_other (by omega)).trans h⟩
  case iter =>
    intro lp J W hb hJ hJI hY hJ0
    refine (iter_in 2 (by omega) lp (w.heap.size + 1 + 1 + 1) (w.heap.size + 1) T L hT hlen tk ok (htok _ (by omega)) (by omega) xs J hJ ?_ hY e st hrun W (hsb.below hb (Nat.le_refl _)) hJ0)
    intro pre W hj
    have hi := hJI pre W hj
    refine ⟨?_, hi.gd hg rfl⟩
    have := hi.box
    simp [World.cell?, this]
  case assign =>
    intro l x W K hK
    unfold tkV tokV at *
    gi_wp2
    exact hK
  case body =>
    intro l pre x bx W hpl hi hbx hW
    obtain ⟨v, hv, hrow⟩ := hi.row
    obtain ⟨i0, hi0, hz0, hz1, hz2⟩ := info_parts infoTok
    have HI0 : Hid (Tryd.prog.info? 33 = some i0) := hi0
    have hW' : W.heap[bx]? = some (.cells #[.int .i64 (tk x.1).kind, .int .i64 x.1, .int .i64 (tk x.1).to, .int .i64 x.2, .int .i64 (tk x.1).num, .string (tk x.1).text] 33 (0, 0)) := hW
    have c4 : W.cell? ⟨w.heap.size + 1 + 1, 0, none⟩ = some v := by simp [World.cell?, hv]
    have t0 : W.cell? ⟨bx, 0, none⟩ = some (.int .i64 (tk x.1).kind) := by simp [World.cell?, hW']
    have t1 : W.cell? ⟨bx, 1, none⟩ = some (.int .i64 x.1) := by simp [World.cell?, hW']
    have t2 : W.cell? ⟨bx, 2, none⟩ = some (.int .i64 (tk x.1).to) := by simp [World.cell?, hW']
    have t3 : W.cell? ⟨bx, 3, none⟩ = some (.int .i64 x.2) := by simp [World.cell?, hW']
    have t4 : W.cell? ⟨bx, 4, none⟩ = some (.int .i64 (tk x.1).num) := by simp [World.cell?, hW']
    have t5 : W.cell? ⟨bx, 5, none⟩ = some (.string (tk x.1).text) := by simp [World.cell?, hW']
    have h1c : ∀ u ∈ [(.int .i64 (tk x.1).kind : Value), .int .i64 x.1, .int .i64 (tk x.1).to, .int .i64 x.2, .int .i64 (tk x.1).num, .string (tk x.1).text], u.oneCell' = true := by intro u hu; simp at hu; rcases hu with rfl | rfl | rfl | rfl | rfl | rfl <;> rfl
    have howna : ∀ o : Obj, (W.alloc o).ownsRow (w.heap.size + 4) 33 6 v pre.length (pre.flatMap (tcs tk)) := fun o => hrow.alloc o
    have hsW := hi.size
    have hpb : pre.length + 1 ≤ 65536 := by omega
    have behind : ∀ (o : Obj) (v' : Value) (w1 : World), w1.ownsRow (w.heap.size + 4) 33 6 v' (pre.length + 1) (pre.flatMap (tcs tk) ++ [.int .i64 (tk x.1).kind, .int .i64 x.1, .int .i64 (tk x.1).to, .int .i64 x.2, .int .i64 (tk x.1).num, .string (tk x.1).text]) → (W.alloc o).grownBy w1 v.ownBlock →
        w1.cell? ⟨w.heap.size + 1 + 1, 0, none⟩ = some v ∧ w1.frozen? ⟨w.heap.size + 1 + 1, 0, none⟩ = false ∧
        bodyEnd w4.heap.size (w.heap.size + 1) (Iv w.heap.size w tk) (pre ++ [x]) W .normal { tmps := #[], defers := [] } (w1.setCell ⟨w.heap.size + 1 + 1, 0, none⟩ v') := by
      intro o v' w1 ho hgr
      have hblk : ∀ i, i < w.heap.size + 4 → w1.heap[i]? = W.heap[i]? := fun i hi4 => by
        refine (hgr.block i (by simp; omega) (fun e2 => ?_)).trans (Below.heap_alloc _ _ _ (by omega))
        have := (hrow.lt i e2.symm).1
        omega
      have hf : w1.heap[w.heap.size + 2]? = some (.cells #[v] 22 (0, 0)) := (hblk _ (by omega)).trans hv
      have hse : ∀ i, i ≠ w.heap.size + 2 → (w1.setCell ⟨w.heap.size + 1 + 1, 0, none⟩ v').heap[i]? = w1.heap[i]? := fun i hne => Below.heap_setCell w1 _ _ _ hne
      refine ⟨by simp [World.cell?, hf], by simp [World.frozen?, hf], ⟨?_, ?_⟩, ?_, ?_⟩
      · have := hgr.size; simp at this ⊢; omega
      · intro k o2 hk hko hc
        rw [hse k (by omega)]
        refine (hgr.block k (by have := (Array.getElem?_eq_some_iff.1 hko).1; simp; omega) (fun e2 => ?_)).trans ((Below.heap_alloc _ _ _ (Array.getElem?_eq_some_iff.1 hko).1).trans hko)
        rcases hrow.2 with ⟨rfl, _⟩ | ⟨g', cap, cur, e3, _, e4, _⟩
        · cases e2
        · rw [e3] at e2
          cases e2
          rw [e4] at hko
          cases hko
          cases hc
      · refine ⟨hgr.os.trans hi.os, hgr.output.trans hi.output, ?_, fun i hi2 => ?_, ?_, ?_, v', ?_, ?_⟩
        · have := hgr.size; simp at this ⊢; omega
        · rw [hse i (by omega)]; exact (hblk i (by omega)).trans (hi.old i hi2)
        · rw [hse _ (by omega)]; exact (hblk _ (by omega)).trans hi.res
        · rw [hse _ (by omega)]; exact (hblk _ (by omega)).trans hi.box
        · simp [World.setCell, Array.getElem?_modify, hf]
        · rw [List.length_append, List.flatMap_append]
          refine rowBlk (W := w1) (by simpa [tcs] using ho) (fun g' e2 => hse g' ?_)
          have := (ho.lt g' e2).1
          omega
      · rw [hse _ (by omega)]; exact hblk _ (by omega)
    have HBH : Hid (∀ (o : Obj) (v' : Value) (w1 : World), w1.ownsRow (w.heap.size + 4) 33 6 v' (pre.length + 1) (pre.flatMap (tcs tk) ++ [.int .i64 (tk x.1).kind, .int .i64 x.1, .int .i64 (tk x.1).to, .int .i64 x.2, .int .i64 (tk x.1).num, .string (tk x.1).text]) → (W.alloc o).grownBy w1 v.ownBlock →
        w1.cell? ⟨w.heap.size + 1 + 1, 0, none⟩ = some v ∧ w1.frozen? ⟨w.heap.size + 1 + 1, 0, none⟩ = false ∧
        bodyEnd w4.heap.size (w.heap.size + 1) (Iv w.heap.size w tk) (pre ++ [x]) W .normal { tmps := #[], defers := [] } (w1.setCell ⟨w.heap.size + 1 + 1, 0, none⟩ v')) := behind
    clear behind hW hW' hv hrow hi hst hsb hrun ok htok hg hT hi0
    gi_wp2_with (gi_at_builtin; refine wpListIn_append_own _ rfl (.tmp 15) (.tmp 17) 22 rfl (w.heap.size + 4) 33 i0 (.agg #[.int .i64 0, .int .i64 0, .int .i64 0, .int .i64 0, .int .i64 0, .string ⟨#[]⟩]) 6 56 Tryd.underlying22 HI0 hz0 hz1 hz2 rfl (by decide) _ _ _ rfl (howna _) ⟨W.heap.size, 0, none⟩ 1 1 [.int .i64 (tk x.1).kind, .int .i64 x.1, .int .i64 (tk x.1).to, .int .i64 x.2, .int .i64 (tk x.1).num, .string (tk x.1).text] rfl rfl (qr_cells W #[.int .i64 (tk x.1).kind, .int .i64 x.1, .int .i64 (tk x.1).to, .int .i64 x.2, .int .i64 (tk x.1).num, .string (tk x.1).text] 33 _ rfl) h1c (by unfold maxLen; omega) (by omega) (by simp; omega) ?_; intro v' w1 hown1 hgrow1 _; obtain ⟨g', cap', rfl⟩ := ownsRow_succ hown1; obtain ⟨d4, z4, hfin⟩ := HBH _ _ _ hown1 hgrow1; clear HBH hown1 hgrow1 c4)
    exact hfin
  case done =>
    rintro D W hD hi ⟨l, hS⟩ hK
    obtain ⟨v, hv, hrow⟩ := hi.row
    have hres := hi.res
    have c3 := hS.c3
    have c1 := hS.c1
    have c4 : W.cell? ⟨w.heap.size + 1 + 1, 0, none⟩ = some v := by simp [World.cell?, hv]
    have r0 : W.cell? ⟨w.heap.size, 0, none⟩ = some (.bool false) := by simp [World.cell?, hres]
    have r1 : W.cell? ⟨w.heap.size, 1, none⟩ = some (.int .i64 0) := by simp [World.cell?, hres]
    have r2 : W.cell? ⟨w.heap.size, 2, none⟩ = some (.slice none 0 0) := by simp [World.cell?, hres]
    have q0 : W.frozen? ⟨w.heap.size, 0, none⟩ = false := by simp [World.frozen?, hres]
    have q1 : W.frozen? ⟨w.heap.size, 1, none⟩ = false := by simp [World.frozen?, hres]
    have q2 : W.frozen? ⟨w.heap.size, 2, none⟩ = false := by simp [World.frozen?, hres]
    have hsW := hi.size
    have HFIN : Hid (∀ W5 : World, W5.os = W.os → W5.output = W.output → W5.heap.size = W.heap.size → (∀ i, i ≠ w.heap.size → W5.heap[i]? = W.heap[i]?) →
        w.keptBut (W5.putObj D (.deferred none)) (fun _ => False) ∧ (W5.putObj D (.deferred none)).ownsRow w.heap.size 33 6 v xs.length (xs.flatMap (tcs tk))) :=
      (fun W5 h1 h2 h3 h4 => by
        constructor
        · have hkb : Kb W5.heap.size w (W5.putObj D (.deferred none)) := by
            refine ⟨h1.trans hi.os, h2.trans hi.output, by simp; omega, fun i hi2 _ => ?_⟩
            rw [World.putObj_heap_other (by omega), h4 i (by omega)]
            exact hi.old i hi2
          exact hkb.kept (by omega)
        · refine rowBlk (W := W) (ownsRow_mono' hrow (by omega)) (fun g' e2 => ?_)
          have h5 := (hrow.lt g' e2).1
          have hne : g' ≠ D := fun e3 => by
            subst e3
            rcases hrow.2 with ⟨rfl, _⟩ | ⟨g2, cap, cur, e3, _, e4, _⟩
            · cases e2
            · rw [e3] at e2; cases e2; rw [e4] at hK; cases hK
          rw [World.putObj_heap_other hne, h4 g' (by omega)] : ∀ W5 : World, W5.os = W.os → W5.output = W.output → W5.heap.size = W.heap.size → (∀ i, i ≠ w.heap.size → W5.heap[i]? = W.heap[i]?) →
        w.keptBut (W5.putObj D (.deferred none)) (fun _ => False) ∧ (W5.putObj D (.deferred none)).ownsRow w.heap.size 33 6 v xs.length (xs.flatMap (tcs tk)))
    cases st with
    | true =>
      clear hi hv hrow hrun ok htok hg hT hst hsb hS
      gi_wp2_with fail
      obtain ⟨W5, hW5⟩ : ∃ W5, W5 = st3 W w.heap.size (.bool false) (.int .i64 (e : Int)) (.slice none 0 0) := ⟨_, rfl⟩
      have h5 : W5.heap[w.heap.size]? = some (.cells #[.bool false, .int .i64 (e : Int), .slice none 0 0] 24 (0, 0)) := by rw [hW5]; exact st3_heap hres _ _ _
      have hK5 : W5.heap[D]? = some (.deferred (some [])) := by rw [hW5, st3_other _ _ _ _ (by omega)]; exact hK
      have hF5 := HFIN W5 (by rw [hW5]; rfl) (by rw [hW5]; rfl) (by rw [hW5]; simp [st3]) (fun i hi => by rw [hW5]; exact st3_other _ _ _ i hi)
      have hW5' : (((W.setCell ⟨w.heap.size, 0, none⟩ (.bool false)).setCell ⟨w.heap.size, 1, none⟩ (.int .i64 (e : Int))).setCell ⟨w.heap.size, 2, none⟩ (.slice none 0 0)) = W5 := hW5.symm
      rw [hW5']
      have g0 : (W5.putObj D (.deferred none)).cell? ⟨w.heap.size, 0, none⟩ = some (.bool false) := by
        rw [World.cell?_of_block (w := W5) (World.putObj_heap_other (by show w.heap.size ≠ D; omega))]; simp [World.cell?, h5]
      have g1 : (W5.putObj D (.deferred none)).cell? ⟨w.heap.size, 1, none⟩ = some (.int .i64 (e : Int)) := by
        rw [World.cell?_of_block (w := W5) (World.putObj_heap_other (by show w.heap.size ≠ D; omega))]; simp [World.cell?, h5]
      have g2 : (W5.putObj D (.deferred none)).cell? ⟨w.heap.size, 2, none⟩ = some (.slice none 0 0) := by
        rw [World.cell?_of_block (w := W5) (World.putObj_heap_other (by show w.heap.size ≠ D; omega))]; simp [World.cell?, h5]
      refine ⟨by simp, .inl ⟨_, _, rfl, run_takeDeferred hK5, ?_⟩⟩
      refine ⟨_, by simp [results, Tryd.results6, go_sem, g0, g1, g2]; rfl, ?_⟩
      exact ⟨hF5.1, .slice none 0 0, rfl, fun h => by cases h⟩
    | false =>
      have hsh : ∃ (ad : Option Addr) (nn cap : Nat), v = .slice ad nn cap := by
        rcases hrow.2 with ⟨h1, _⟩ | ⟨g2, cap, cur, e3, _⟩
        · exact ⟨none, 0, 0, h1⟩
        · exact ⟨_, _, _, e3⟩
      obtain ⟨ad, nn, cap, rfl⟩ := hsh
      clear hi hv hrow hrun ok htok hg hT hst hsb hS
      gi_wp2_with fail
      obtain ⟨W5, hW5⟩ : ∃ W5, W5 = st3 W w.heap.size (.bool true) (.int .i64 0) (.slice ad nn cap) := ⟨_, rfl⟩
      have h5 : W5.heap[w.heap.size]? = some (.cells #[.bool true, .int .i64 0, .slice ad nn cap] 24 (0, 0)) := by rw [hW5]; exact st3_heap hres _ _ _
      have hK5 : W5.heap[D]? = some (.deferred (some [])) := by rw [hW5, st3_other _ _ _ _ (by omega)]; exact hK
      have hF5 := HFIN W5 (by rw [hW5]; rfl) (by rw [hW5]; rfl) (by rw [hW5]; simp [st3]) (fun i hi => by rw [hW5]; exact st3_other _ _ _ i hi)
      have hW5' : (((W.setCell ⟨w.heap.size, 0, none⟩ (.bool true)).setCell ⟨w.heap.size, 1, none⟩ (.int .i64 0)).setCell ⟨w.heap.size, 2, none⟩ (.slice ad nn cap)) = W5 := hW5.symm
      rw [hW5']
      have g0 : (W5.putObj D (.deferred none)).cell? ⟨w.heap.size, 0, none⟩ = some (.bool true) := by
        rw [World.cell?_of_block (w := W5) (World.putObj_heap_other (by show w.heap.size ≠ D; omega))]; simp [World.cell?, h5]
      have g1 : (W5.putObj D (.deferred none)).cell? ⟨w.heap.size, 1, none⟩ = some (.int .i64 0) := by
        rw [World.cell?_of_block (w := W5) (World.putObj_heap_other (by show w.heap.size ≠ D; omega))]; simp [World.cell?, h5]
      have g2 : (W5.putObj D (.deferred none)).cell? ⟨w.heap.size, 2, none⟩ = some (.slice ad nn cap) := by
        rw [World.cell?_of_block (w := W5) (World.putObj_heap_other (by show w.heap.size ≠ D; omega))]; simp [World.cell?, h5]
      refine ⟨by simp, .inl ⟨_, _, rfl, run_takeDeferred hK5, ?_⟩⟩
      refine ⟨_, by simp [results, Tryd.results6, go_sem, g0, g1, g2]; rfl, ?_⟩
      exact ⟨hF5.1, .slice ad nn cap, rfl, hF5.2⟩
end Go.Proofs.YtogenhnonjkanaaDoor
namespace Go.Proofs.YtogenhnonjkanaaDoor
open Go.ChangeShapes Go.WideShapes Go.ChangeAt Go.RowKit
set_option linter.unusedVariables false
/-- the contract of the model's read -/
def TokS (T : ByteArray) (L : List UInt8) (tk : Nat → Tk) : Prop := ∀ (p : Nat) (w : World), p < L.length → Calls Tryd.prog 15 #[.string T, .int .i64 (p : Int)] w fun e w' => Below w.heap.size w w' ∧
  ((tk p).kind ≠ 0 → e = .returned (.tuple #[tokV (tk p).kind p (tk p).to 0 (tk p).num (tk p).text, .int .i64 (-1)])) ∧ ((tk p).kind = 0 → ∃ a b c d n t, e = .returned (.tuple #[tokV a b c d n t, .int .i64 ((tk p).to : Int)]))
/-- between two rounds of the model's -/
structure Ov (w : World) (tk : Nat → Tk) (pre : List (Nat × Int)) (v : Value) (W : World) : Prop where
  bel : Below w.heap.size w W
  size : w.heap.size + 2 ≤ W.heap.size
  res : W.heap[w.heap.size]? = some (.cells #[.bool false, .int .i64 0, .slice none 0 0] 24 (0, 0))
  out : W.heap[w.heap.size + 1]? = some (.cells #[.bool true, .int .i64 0, v] 24 (0, 0))
  row : W.ownsRow (w.heap.size + 2) 33 6 v pre.length (pre.flatMap (tcs tk))
theorem Ov.below {w : World} {tk : Nat → Tk} {pre : List (Nat × Int)} {v : Value} {W W' : World} (h : Ov w tk pre v W) (hb : Below W.heap.size W W') : Ov w tk pre v W' := by
  have hs := h.size
  have h1 := h.bel.size
  exact ⟨h.bel.trans (hb.mono h1), Nat.le_trans hs hb.size, (hb.block _ (by omega)).trans h.res, (hb.block _ (by omega)).trans h.out, rowBlk h.row (fun g e => hb.block g (h.row.lt g e).2)⟩
theorem Ov.add {w : World} {tk : Nat → Tk} {pre : List (Nat × Int)} {v v' : Value} {W w1 : World} {o : Obj} (x : Nat × Int) (h : Ov w tk pre v W) (ho : w1.ownsRow (w.heap.size + 2) 33 6 v' (pre.length + 1) (pre.flatMap (tcs tk) ++ tcs tk x)) (hg : (W.alloc o).grownBy w1 v.ownBlock) :
    w1.cell? ⟨w.heap.size + 1, 2, none⟩ = some v ∧ w1.frozen? ⟨w.heap.size + 1, 2, none⟩ = false ∧ (∀ i, i < W.heap.size → v.ownBlock ≠ some i → w1.heap[i]? = W.heap[i]?) ∧ Ov w tk (pre ++ [x]) v' (w1.setCell ⟨w.heap.size + 1, 2, none⟩ v') := by
  have hs := h.size
  have hblk : ∀ i, i < W.heap.size → v.ownBlock ≠ some i → w1.heap[i]? = W.heap[i]? := fun i hi hne => (hg.block i (by simp; omega) (fun e2 => hne e2.symm)).trans (Below.heap_alloc _ _ _ hi)
  have hlow : ∀ i, i < w.heap.size + 2 → w1.heap[i]? = W.heap[i]? := fun i hi => hblk i (by omega) (fun e2 => by have := (h.row.lt i e2).1; omega)
  have hf := (hlow (w.heap.size + 1) (by omega)).trans h.out
  have hse : ∀ i, i ≠ w.heap.size + 1 → (w1.setCell ⟨w.heap.size + 1, 2, none⟩ v').heap[i]? = w1.heap[i]? := fun i hne => Below.heap_setCell w1 _ _ _ hne
  have hgs := hg.size
  refine ⟨by simp [World.cell?, hf], by simp [World.frozen?, hf], hblk, ⟨hg.os.trans h.bel.os, hg.tape.trans h.bel.tape, hg.output.trans h.bel.output, by have := h.bel.size; simp at hgs ⊢; omega, fun i hi => ?_⟩, by simp at hgs ⊢; omega, ?_, ?_, ?_⟩
  · rw [hse i (by omega), hlow i (by omega)]; exact h.bel.block i hi
  · rw [hse _ (by omega)]; exact (hlow _ (by omega)).trans h.res
  · simp [World.setCell, Array.getElem?_modify, hf]
  · rw [List.length_append, List.flatMap_append]
    refine rowBlk (W := w1) (by simpa using ho) (fun g' e2 => hse g' ?_)
    have := (ho.lt g' e2).1
    omega
set_option maxRecDepth 100000 in
set_option maxHeartbeats 2000000 in
theorem spec_scan (T : ByteArray) (L : List UInt8) (hT : T.data.toList = L) (hlen : T.size ≤ 65536) (tk : Nat → Tk) (ok : TkOk L tk) (xs : List (Nat × Int)) (e : Nat) (st : Bool) (hrun : Run L tk (bl L 0) 1 xs e st) (htok : TokS T L tk) (hxl : xs.length ≤ 65536) (w : World) :
    Calls Tryd.prog 5 #[.string T] w fun en w' => Below w.heap.size w w' ∧ ∃ v, en = .returned (scanV e st v) ∧ (st = false → w'.ownsRow w.heap.size 33 6 v xs.length (xs.flatMap (tcs tk))) := by
  have hsz : T.size = L.length := by rw [← hT]; simp
  have hI : ¬ (65536 : Int) < (T.size : Int) := by omega
  have hbl0 := bl_le L 0 (Nat.zero_le _)
  have HBL : Hid (∀ (k : Nat), k ≤ L.length → ∀ w, Calls Tryd.prog 14 #[.string T, .int .i64 (k : Int)] w fun e w' => e = .returned (.int .i64 (bl L k : Int)) ∧ w' = w) := (fun k hk w => spec_blanks T L hT (by omega) k hk w : ∀ (k : Nat), k ≤ L.length → ∀ w, Calls Tryd.prog 14 #[.string T, .int .i64 (k : Int)] w fun e w' => e = .returned (.int .i64 (bl L k : Int)) ∧ w' = w)
  have hb0 : ∀ w, Calls Tryd.prog 14 #[.string T, .int .i64 0] w fun e w' => e = .returned (.int .i64 (bl L 0 : Int)) ∧ w' = w := (show ∀ (k : Nat), _ from HBL) 0 (Nat.zero_le _)
  have HTK : Hid (TokS T L tk) := htok
  have HOK : Hid (TkOk L tk) := ok
  have HRUN : Hid (Run L tk (bl L 0) 1 xs e st) := hrun
  have HXL : Hid (xs.length ≤ 65536) := hxl
  obtain ⟨M, hM, hLM⟩ : ∃ M : Int, M ≤ 65536 ∧ (L.length : Int) ≤ M := ⟨L.length, by omega, Int.le_refl _⟩
  have h0 : Ov w tk [] (.slice none 0 0) ((w.alloc (.cells #[.bool false, .int .i64 0, .slice none 0 0] 24)).alloc (.cells #[.bool true, .int .i64 0, .slice none 0 0] 24)) := by
    refine ⟨bel2 w _ _, by simp, ?_, ?_, World.ownsRow_nil _ _ _ _⟩
    · rw [Below.heap_alloc _ _ _ (by simp)]; exact World.alloc_heap_new w _
    · have := World.alloc_heap_new (w.alloc (.cells #[.bool false, .int .i64 0, .slice none 0 0] 24)) (.cells #[.bool true, .int .i64 0, .slice none 0 0] 24)
      simpa using this
  have H0 : Hid (Ov w tk [] (.slice none 0 0) ((w.alloc (.cells #[.bool false, .int .i64 0, .slice none 0 0] 24)).alloc (.cells #[.bool true, .int .i64 0, .slice none 0 0] 24))) := h0
  clear h0 hrun ok htok hT hlen hxl
  go_enter Tryd.func5, Tryd.ntmps5
  go_wp2_with fail
  refine (hb0 _).mono ?_
  rintro en w1 ⟨rfl, rfl⟩
  clear hb0
  go_wp2_with fail
  go_loopw [4, 5] (fun a b wr => ∃ (p : Nat) (l : Int) (pre rest : List (Nat × Int)) (v : Value), a = .int .i64 l ∧ b = .int .i64 (p : Int) ∧ p ≤ L.length ∧ Hid (xs = pre ++ rest ∧ Run L tk p l rest e st ∧ 0 ≤ l ∧ l ≤ (p : Int) + 1 ∧ Ov w tk pre v wr)) (fun _ b _ => L.length - (intOf b).toNat)
  case atStart => exact ⟨bl L 0, 1, [], xs, .slice none 0 0, rfl, rfl, hbl0, (⟨rfl, HRUN, by omega, by omega, H0⟩ : _ ∧ _ ∧ _ ∧ _ ∧ _)⟩
  case round =>
    clear H0 HRUN
    obtain ⟨p, l, pre, rest, v, rfl, rfl, hp, HR⟩ := hrel
    obtain ⟨hx, hrun, hl0, hl1, hO⟩ := (show xs = pre ++ rest ∧ Run L tk p l rest e st ∧ 0 ≤ l ∧ l ≤ (p : Int) + 1 ∧ Ov w tk pre v wr from HR)
    clear HR
    have hpM : (p : Int) ≤ M := by omega
    have r0 : wr.cell? ⟨w.heap.size, 0, none⟩ = some (.bool false) := by simp [World.cell?, hO.res]
    have r1 : wr.cell? ⟨w.heap.size, 1, none⟩ = some (.int .i64 0) := by simp [World.cell?, hO.res]
    have r2 : wr.cell? ⟨w.heap.size, 2, none⟩ = some (.slice none 0 0) := by simp [World.cell?, hO.res]
    have q0 : wr.frozen? ⟨w.heap.size, 0, none⟩ = false := by simp [World.frozen?, hO.res]
    have q1 : wr.frozen? ⟨w.heap.size, 1, none⟩ = false := by simp [World.frozen?, hO.res]
    have q2 : wr.frozen? ⟨w.heap.size, 2, none⟩ = false := by simp [World.frozen?, hO.res]
    have o0 : wr.cell? ⟨w.heap.size + 1, 0, none⟩ = some (.bool true) := by simp [World.cell?, hO.out]
    have o1 : wr.cell? ⟨w.heap.size + 1, 1, none⟩ = some (.int .i64 0) := by simp [World.cell?, hO.out]
    have o2 : wr.cell? ⟨w.heap.size + 1, 2, none⟩ = some v := by simp [World.cell?, hO.out]
    rcases hrun.inv with ⟨s1, s2, s3, s4⟩ | ⟨s1, s2, s3, s4, s5⟩ | ⟨ts, s1, s2, s3, s4⟩
    · have hsh : ∃ (ad : Option Addr) (nn cap : Nat), v = .slice ad nn cap := by
        rcases hO.row.2 with ⟨h1, _⟩ | ⟨g2, cap, cur, e3, _⟩
        · exact ⟨none, 0, 0, h1⟩
        · exact ⟨_, _, _, e3⟩
      obtain ⟨ad, nn, cap, rfl⟩ := hsh
      have hnl : ¬ (p : Int) < (T.size : Int) := by omega
      have HF : Hid (Below w.heap.size w (st3 wr w.heap.size (.bool true) (.int .i64 0) (.slice ad nn cap)) ∧ ∃ v, Ending.returned (.agg #[.bool true, .int .i64 0, .slice ad nn cap]) = .returned (scanV e st v) ∧ (st = false → (st3 wr w.heap.size (.bool true) (.int .i64 0) (.slice ad nn cap)).ownsRow w.heap.size 33 6 v xs.length (xs.flatMap (tcs tk)))) := by
        show _ ∧ _
        refine ⟨?_, .slice ad nn cap, by rw [s4]; rfl, fun _ => ?_⟩
        · exact ((hO.bel.setCell (Nat.le_refl _) _).setCell (Nat.le_refl _) _).setCell (Nat.le_refl _) _
        · have hr := hO.row
          rw [hx, s1, List.append_nil]
          refine rowBlk (ownsRow_mono' hr (by omega)) (fun g' e2 => st3_other _ _ _ g' ?_)
          have := (hr.lt g' e2).1
          omega
      have e0 : (st3 wr w.heap.size (.bool true) (.int .i64 0) (.slice ad nn cap)).cell? ⟨w.heap.size, 0, none⟩ = some (.bool true) := by have := st3_heap hO.res (.bool true) (.int .i64 0) (.slice ad nn cap); simp [World.cell?, this]
      have e1 : (st3 wr w.heap.size (.bool true) (.int .i64 0) (.slice ad nn cap)).cell? ⟨w.heap.size, 1, none⟩ = some (.int .i64 0) := by have := st3_heap hO.res (.bool true) (.int .i64 0) (.slice ad nn cap); simp [World.cell?, this]
      have e2 : (st3 wr w.heap.size (.bool true) (.int .i64 0) (.slice ad nn cap)).cell? ⟨w.heap.size, 2, none⟩ = some (.slice ad nn cap) := by have := st3_heap hO.res (.bool true) (.int .i64 0) (.slice ad nn cap); simp [World.cell?, this]
      have EH : Hid (_ ∧ _ ∧ _) := (⟨e0, e1, e2⟩ : _ ∧ _ ∧ _)
      clear HTK HOK HXL HBL hx hO hl0 hl1 hrun s1 s2 s3 s4 e0 e1 e2
      go_wp2_with fail
      obtain ⟨e0, e1, e2⟩ := EH
      unfold st3 at e0 e1 e2
      refine bodyPost_ret (by simp [results, Tryd.results5, go_sem, e0, e1, e2]; rfl) rfl ?_
      exact HF
    · have hnl : (p : Int) < (T.size : Int) := by omega
      have hcall := (show TokS T L tk from HTK) p wr s2
      have HE : Hid (e = (tk p).to ∧ st = true) := (⟨s4, s5⟩ : _ ∧ _)
      have HOB : Hid (∀ w1, Below wr.heap.size wr w1 → Ov w tk pre v w1) := (fun w1 hb => hO.below hb : ∀ w1, Below wr.heap.size wr w1 → Ov w tk pre v w1)
      clear HTK HOK HXL HBL hx hO hl0 hl1 hrun s1 s2 s4 s5
      go_wp2_with fail
      refine hcall.mono ?_
      rintro en w1 ⟨hb1, _, hbad⟩
      obtain ⟨a1, b1, c1, d1, n1, t1, rfl⟩ := hbad s3
      have hO1 := (show ∀ w1, Below wr.heap.size wr w1 → Ov w tk pre v w1 from HOB) w1 hb1
      have hO2 := hO1.below ((Below.refl _ w1).alloc (Nat.le_refl _) (.cells #[.int .i64 a1, .int .i64 b1, .int .i64 c1, .int .i64 d1, .int .i64 n1, .string t1] 33))
      unfold tokV
      obtain ⟨A, hA⟩ : ∃ A, A = w1.alloc (.cells #[.int .i64 a1, .int .i64 b1, .int .i64 c1, .int .i64 d1, .int .i64 n1, .string t1] 33) := ⟨_, rfl⟩
      rw [← hA] at hO2
      clear r0 r1 r2 q0 q1 q2 o0 o1 o2 hcall hb1 hbad HOB hO1
      have r0 : A.cell? ⟨w.heap.size, 0, none⟩ = some (.bool false) := by simp [World.cell?, hO2.res]
      have r1 : A.cell? ⟨w.heap.size, 1, none⟩ = some (.int .i64 0) := by simp [World.cell?, hO2.res]
      have r2 : A.cell? ⟨w.heap.size, 2, none⟩ = some (.slice none 0 0) := by simp [World.cell?, hO2.res]
      have q0 : A.frozen? ⟨w.heap.size, 0, none⟩ = false := by simp [World.frozen?, hO2.res]
      have q1 : A.frozen? ⟨w.heap.size, 1, none⟩ = false := by simp [World.frozen?, hO2.res]
      have q2 : A.frozen? ⟨w.heap.size, 2, none⟩ = false := by simp [World.frozen?, hO2.res]
      have HF : Hid (Below w.heap.size w (st3 A w.heap.size (.bool false) (.int .i64 ((tk p).to : Int)) (.slice none 0 0))) := ((hO2.bel.setCell (Nat.le_refl _) _).setCell (Nat.le_refl _) _).setCell (Nat.le_refl _) _
      have e0 : (st3 A w.heap.size (.bool false) (.int .i64 ((tk p).to : Int)) (.slice none 0 0)).cell? ⟨w.heap.size, 0, none⟩ = some (.bool false) := by have := st3_heap hO2.res (.bool false) (.int .i64 ((tk p).to : Int)) (.slice none 0 0); simp [World.cell?, this]
      have e1 : (st3 A w.heap.size (.bool false) (.int .i64 ((tk p).to : Int)) (.slice none 0 0)).cell? ⟨w.heap.size, 1, none⟩ = some (.int .i64 ((tk p).to : Int)) := by have := st3_heap hO2.res (.bool false) (.int .i64 ((tk p).to : Int)) (.slice none 0 0); simp [World.cell?, this]
      have e2 : (st3 A w.heap.size (.bool false) (.int .i64 ((tk p).to : Int)) (.slice none 0 0)).cell? ⟨w.heap.size, 2, none⟩ = some (.slice none 0 0) := by have := st3_heap hO2.res (.bool false) (.int .i64 ((tk p).to : Int)) (.slice none 0 0); simp [World.cell?, this]
      have EH : Hid (_ ∧ _ ∧ _) := (⟨e0, e1, e2⟩ : _ ∧ _ ∧ _)
      have hnn : (0 : Int) ≤ ((tk p).to : Int) := by omega
      rw [hA] at r0 r1 r2 q0 q1 q2
      clear hO2 e0 e1 e2 s3
      go_wp2_with fail
      obtain ⟨e0, e1, e2⟩ := EH
      unfold st3 at e0 e1 e2
      have HFF := (show Below w.heap.size w (st3 A w.heap.size (.bool false) (.int .i64 ((tk p).to : Int)) (.slice none 0 0)) from HF)
      unfold st3 at HFF
      rw [hA] at e0 e1 e2 HFF
      refine bodyPost_ret (by simp [results, Tryd.results5, go_sem, e0, e1, e2]; rfl) rfl ?_
      have hEE := (show e = (tk p).to ∧ st = true from HE)
      refine ⟨?_, .slice none 0 0, ?_, fun h => ?_⟩
      · simpa [go_sem] using HFF
      · rw [hEE.1, hEE.2]; rfl
      · rw [hEE.2] at h; cases h
    · have hnl : (p : Int) < (T.size : Int) := by omega
      have hcall := (show TokS T L tk from HTK) p wr s2
      have hto1 := (show TkOk L tk from HOK).lt p s2 s3
      have hto2 := (show TkOk L tk from HOK).le p s2
      obtain ⟨i0, hi0, hz0, hz1, hz2⟩ := info_parts infoTok
      have HI0 : Hid (Tryd.prog.info? 33 = some i0) := hi0
      have hbl := bl_le L (tk p).to hto2
      have hblg := bl_ge L (tk p).to
      have hblc := (show ∀ (k : Nat), _ from HBL) (tk p).to hto2
      have HX : Hid (xs = (pre ++ [(p, l)]) ++ ts ∧ Run L tk (bl L (tk p).to) (if (tk p).kind = 7 then l + 1 else l) ts e st) := (⟨by rw [hx, s1]; simp, s4⟩ : _ ∧ _)
      have hpl : pre.length + 1 ≤ 65536 := by have := (show xs.length ≤ 65536 from HXL); rw [hx, s1, List.length_append, List.length_cons] at this; omega
      have HOB : Hid (∀ w1, Below wr.heap.size wr w1 → Ov w tk pre v w1) := (fun w1 hb => hO.below hb : ∀ w1, Below wr.heap.size wr w1 → Ov w tk pre v w1)
      have hwr := hO.size
      have hgl : ∀ g, v.ownBlock = some g → g < wr.heap.size := fun g e2 => (hO.row.lt g e2).2
      have hlM : l ≤ M + 1 := by omega
      have HL : Hid (0 ≤ l ∧ l ≤ (p : Int) + 1) := (⟨hl0, hl1⟩ : _ ∧ _)
      have h1c : ∀ u ∈ [(.int .i64 (tk p).kind : Value), .int .i64 p, .int .i64 (tk p).to, .int .i64 l, .int .i64 (tk p).num, .string (tk p).text], u.oneCell' = true := by intro u hu; simp at hu; rcases hu with rfl | rfl | rfl | rfl | rfl | rfl <;> rfl
      clear HTK HOK HXL HBL hx hO hrun s1 s2 s4 hi0
      go_wp2_with fail
      refine hcall.mono ?_
      rintro en w1 ⟨hb1, hgood, _⟩
      obtain rfl := hgood s3
      have hO1 := (show ∀ w1, Below wr.heap.size wr w1 → Ov w tk pre v w1 from HOB) w1 hb1
      have hO2 := hO1.below ((Below.refl _ w1).alloc (Nat.le_refl _) (.cells #[.int .i64 (tk p).kind, .int .i64 p, .int .i64 (tk p).to, .int .i64 l, .int .i64 (tk p).num, .string (tk p).text] 33))
      unfold tokV
      obtain ⟨A, hA⟩ : ∃ A, A = w1.alloc (.cells #[.int .i64 (tk p).kind, .int .i64 p, .int .i64 (tk p).to, .int .i64 l, .int .i64 (tk p).num, .string (tk p).text] 33) := ⟨_, rfl⟩
      rw [← hA] at hO2
      have hAz : A.heap.size = w1.heap.size + 1 := by rw [hA]; simp
      have hAt : A.heap[w1.heap.size]? = some (.cells #[.int .i64 (tk p).kind, .int .i64 p, .int .i64 (tk p).to, .int .i64 l, .int .i64 (tk p).num, .string (tk p).text] 33 (0, 0)) := by rw [hA]; exact World.alloc_heap_new _ _
      have hbs := hb1.size
      clear r0 r1 r2 q0 q1 q2 o0 o1 o2 hcall hb1 hgood HOB hO1
      have o2 : A.cell? ⟨w.heap.size + 1, 2, none⟩ = some v := by simp [World.cell?, hO2.out]
      have howna : ∀ o : Obj, (A.alloc o).ownsRow (w.heap.size + 2) 33 6 v pre.length (pre.flatMap (tcs tk)) := fun o => hO2.row.alloc o
      have hsA := hO2.size
      have HADD : Hid (∀ (o : Obj) (v' : Value) (w2 : World), w2.ownsRow (w.heap.size + 2) 33 6 v' (pre.length + 1) (pre.flatMap (tcs tk) ++ [.int .i64 (tk p).kind, .int .i64 p, .int .i64 (tk p).to, .int .i64 l, .int .i64 (tk p).num, .string (tk p).text]) → (A.alloc o).grownBy w2 v.ownBlock →
          w2.cell? ⟨w.heap.size + 1, 2, none⟩ = some v ∧ w2.frozen? ⟨w.heap.size + 1, 2, none⟩ = false ∧ (w2.setCell ⟨w.heap.size + 1, 2, none⟩ v').cell? ⟨w1.heap.size, 2, none⟩ = some (.int .i64 ((tk p).to : Int)) ∧ Ov w tk (pre ++ [(p, l)]) v' (w2.setCell ⟨w.heap.size + 1, 2, none⟩ v')) := by
        show ∀ (o : Obj) (v' : Value) (w2 : World), _
        intro o v' w2 ho hgr
        obtain ⟨z1, z2, z3, z4⟩ := Ov.add (p, l) hO2 ho hgr
        refine ⟨z1, z2, ?_, z4⟩
        have hne : v.ownBlock ≠ some w1.heap.size := fun e2 => by have := hgl _ e2; omega
        have hb2 := z3 w1.heap.size (by omega) hne
        rw [World.cell?_of_block (w := A) ((Below.heap_setCell w2 _ _ _ (by show w1.heap.size ≠ w.heap.size + 1; omega)).trans hb2)]
        simp [World.cell?, hAt]
      have hqc := qr_cells A #[.int .i64 (tk p).kind, .int .i64 p, .int .i64 (tk p).to, .int .i64 l, .int .i64 (tk p).num, .string (tk p).text] 33 _ rfl
      rw [hAz] at hqc
      have hsz4 : w.heap.size + 2 ≤ w1.heap.size + 1 + 1 := by omega
      rw [hA] at o2 howna HADD hqc
      clear hO2 hAt hAz hgl hsA
      by_cases h7 : (tk p).kind = 7
      · have hk7 : ((tk p).kind == 7) = true := by simpa using h7
        rw [if_pos h7] at HX
        clear h7
        go_wp2_with (at_builtin; refine wpList_append_own _ rfl (.tmp 37) (.tmp 39) 22 rfl (w.heap.size + 2) 33 i0 (.agg #[.int .i64 0, .int .i64 0, .int .i64 0, .int .i64 0, .int .i64 0, .string ⟨#[]⟩]) 6 56 Tryd.underlying22 HI0 hz0 hz1 hz2 rfl (by decide) _ _ _ rfl (howna _) ⟨w1.heap.size + 1, 0, none⟩ 1 1 [.int .i64 (tk p).kind, .int .i64 p, .int .i64 (tk p).to, .int .i64 l, .int .i64 (tk p).num, .string (tk p).text] rfl rfl hqc h1c (by unfold maxLen; omega) (by omega) (by simp; omega) ?_; intro v' w2 hown1 hgrow1 _; obtain ⟨g', cap', rfl⟩ := ownsRow_succ hown1; obtain ⟨d4, z4, d5, hfin⟩ := HADD _ _ _ hown1 hgrow1; clear HADD hown1 hgrow1 o2 howna)
        refine (hblc _).mono ?_
        rintro en w3 ⟨rfl, rfl⟩
        clear hblc d4 z4 d5
        have HN : Hid (Ov w tk (pre ++ [(p, l)]) (.slice (some ⟨g', 0, none⟩) (pre.length + 1) cap') (w2.setCell ⟨w.heap.size + 1, 2, none⟩ (.slice (some ⟨g', 0, none⟩) (pre.length + 1) cap'))) := hfin
        clear hfin hqc
        go_wp2_with fail
        refine ⟨⟨bl L (tk p).to, l + 1, pre ++ [(p, l)], ts, _, rfl, rfl, hbl, (⟨HX.1, HX.2, by have := HL.1; omega, by have := HL.2; omega, HN⟩ : _ ∧ _ ∧ _ ∧ _ ∧ _)⟩, ?_⟩
        simp [intOf]; omega
      · have hk7 : ((tk p).kind == 7) = false := by simpa using h7
        rw [if_neg h7] at HX
        clear h7
        go_wp2_with (at_builtin; refine wpList_append_own _ rfl (.tmp 37) (.tmp 39) 22 rfl (w.heap.size + 2) 33 i0 (.agg #[.int .i64 0, .int .i64 0, .int .i64 0, .int .i64 0, .int .i64 0, .string ⟨#[]⟩]) 6 56 Tryd.underlying22 HI0 hz0 hz1 hz2 rfl (by decide) _ _ _ rfl (howna _) ⟨w1.heap.size + 1, 0, none⟩ 1 1 [.int .i64 (tk p).kind, .int .i64 p, .int .i64 (tk p).to, .int .i64 l, .int .i64 (tk p).num, .string (tk p).text] rfl rfl hqc h1c (by unfold maxLen; omega) (by omega) (by simp; omega) ?_; intro v' w2 hown1 hgrow1 _; obtain ⟨g', cap', rfl⟩ := ownsRow_succ hown1; obtain ⟨d4, z4, d5, hfin⟩ := HADD _ _ _ hown1 hgrow1; clear HADD hown1 hgrow1 o2 howna)
        refine (hblc _).mono ?_
        rintro en w3 ⟨rfl, rfl⟩
        clear hblc d4 z4 d5
        have HN : Hid (Ov w tk (pre ++ [(p, l)]) (.slice (some ⟨g', 0, none⟩) (pre.length + 1) cap') (w2.setCell ⟨w.heap.size + 1, 2, none⟩ (.slice (some ⟨g', 0, none⟩) (pre.length + 1) cap'))) := hfin
        clear hfin hqc
        go_wp2_with fail
        refine ⟨⟨bl L (tk p).to, l, pre ++ [(p, l)], ts, _, rfl, rfl, hbl, (⟨HX.1, HX.2, by have := HL.1; omega, by have := HL.2; omega, HN⟩ : _ ∧ _ ∧ _ ∧ _ ∧ _)⟩, ?_⟩
        simp [intOf]; omega
end Go.Proofs.YtogenhnonjkanaaDoor
