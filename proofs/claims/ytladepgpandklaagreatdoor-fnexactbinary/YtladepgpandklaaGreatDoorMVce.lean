import Derived.Test.YtladepgpandklaaGreatDoorMVcd
namespace Go.Proofs.YtladepgpandklaaGreatDoor
open Go.ChangeShapes Go.WideShapes Go.ChangeAt Go.RowKit
set_option linter.unusedVariables false
set_option maxRecDepth 100000
attribute [local go_sem] unary_negf'
theorem im_word_nan (b : Bool) (c d : Int) (w : World) : Calls Tryz.prog 72 #[.agg #[.int .i64 3, .bool b, .int .i64 c, .int .i64 d]] w fun e w' => e = .returned (.string ⟨#[110, 97, 110]⟩) ∧ Grown w w' := by
  go_enter Tryz.func72, Tryz.ntmps72
  go_wp2_with fail
  go_ret
  exact ⟨rfl, by go_grown⟩
theorem im_word_inf (b : Bool) (c d : Int) (w : World) : Calls Tryz.prog 72 #[.agg #[.int .i64 2, .bool b, .int .i64 c, .int .i64 d]] w fun e w' => e = .returned (.string (sgb b ++ ⟨#[105, 110, 102]⟩)) ∧ Grown w w' := by
  have HM := fun w => im_minus 2 c d b w
  cases b
  all_goals
    unfold sgb at *
    simp only [Bool.false_eq_true, if_false, if_true] at *
    go_enter Tryz.func72, Tryz.ntmps72
    go_wp2_with fail
    refine (HM _).mono ?_
    rintro e w1 ⟨rfl, g1⟩
    have G1 : Hid (Grown w w1) := Grown.trans (by go_grown) g1
    clear g1 HM
    go_wp2_with fail
    go_ret
    exact ⟨rfl, G1⟩
/-- a world behind w0 with a float's parts in block B -/
structure Gp (w0 : World) (B : Nat) (a : Int) (b : Bool) (c d : Int) (w : World) : Prop where
  kq : Kq w0 w
  tb : Tb w
  k0 : w.cell? ⟨B, 0, none⟩ = some (.int .i64 a)
  k1 : w.cell? ⟨B, 1, none⟩ = some (.bool b)
  k2 : w.cell? ⟨B, 2, none⟩ = some (.int .i64 c)
  k3 : w.cell? ⟨B, 3, none⟩ = some (.int .i64 d)
theorem Gp.go {w0 : World} {B : Nat} {a c d : Int} {b : Bool} {w w' : World} (h : Gp w0 B a b c d w) (k : Kq w w') : Gp w0 B a b c d w' := ⟨h.kq.trans k, h.tb.kq k, k.cell h.k0, k.cell h.k1, k.cell h.k2, k.cell h.k3⟩
structure GP (w0 : World) (B : Nat) (a : Int) (b : Bool) (c d : Int) where
  w : World
  g : Gp w0 B a b c d w
theorem wp_region_parts {w0 : World} {B : Nat} {a c d : Int} {b : Bool} {P : Program} {id : Nat} {Q : Exit → Act → World → Prop} {A : Act} {w : World} {l : List Oper} (hG : Gp w0 B a b c d w) (hm : P.follows .mixedOrders = true) (hB : Region.lexB .any l.toArray = true)
    (h : wpQuiet P l.toArray (fun w' => ∃ p : GP w0 B a b c d, w' = p.w) (fun a' => ∀ w', (∃ p : GP w0 B a b c d, w' = p.w) → Q .normal a' w') l A) : (Code.region id l.toArray true).wp P Q A w :=
  wp_region_quiet (C := fun w' => ∃ p : GP w0 B a b c d, w' = p.w) hm hB ⟨⟨_, hG.go (Kq.drew (Kq.refl _))⟩, rfl⟩ (by simpa using h)
set_option maxHeartbeats 4000000 in
theorem im_ft_gen (x : Nat) (a : Int) (b : Bool) (c d : Int) (ha : a = 0 ∨ a = 1) (hc : 0 ≤ c ∧ c ≤ 9007199254740992) (hd : -3000 ≤ d ∧ d ≤ 3000)
    (HP : ∀ w, Tab w → Calls Tryz.prog 71 #[.float .f64 x] w fun e w' => e = .returned (.agg #[.int .i64 a, .bool b, .int .i64 c, .int .i64 d]) ∧ Grown w w') (w : World) (hT : Tb w) :
    Calls Tryz.prog 58 #[.float .f64 x] w fun e w' => e = .returned (.string (((sgb b ++ itx c) ++ ⟨#[112]⟩) ++ itx d)) ∧ Kq w w' := by
  have G1 : ∀ (B : Nat) (W : World), Gp w B a b c d W → Calls Tryz.prog 73 #[.agg #[.int .i64 a, .bool b, .int .i64 c, .int .i64 d]] W fun e w' => e = .returned (.string (sgb b)) ∧ Gp w B a b c d w' := fun B W h => (im_minus a c d b W).mono fun _ _ ⟨e, g⟩ => ⟨e, h.go (.of_grown g)⟩
  have G2 : ∀ (B : Nat) (W : World), Gp w B a b c d W → Calls Tryz.prog 57 #[.int .i64 c, .int .i64 10] W fun e w' => e = .returned (.string (itx c)) ∧ Gp w B a b c d w' := fun B W h => (im_write c (by omega) (by omega) W h.tb.pw).mono fun _ _ ⟨e, g⟩ => ⟨e, h.go (.of_below g)⟩
  have G3 : ∀ (B : Nat) (W : World), Gp w B a b c d W → Calls Tryz.prog 74 #[.int .i64 d] W fun e w' => e = .returned (.string (itx d)) ∧ Gp w B a b c d w' := fun B W h => (impl_itoa d (by omega) (by omega) W h.tb.pw).mono fun _ _ ⟨e, g⟩ => ⟨e, h.go (.of_below g)⟩
  have l1 := itx_len c (by omega) (by omega)
  have l2 := itx_len d (by omega) (by omega)
  have l0 : (sgb b).size ≤ 1 := by cases b <;> decide
  generalize itx c = C at *
  generalize itx d = D at *
  generalize sgb b = S at *
  have h2 : (a == 2) = false := by rcases ha with rfl | rfl <;> decide
  have h3 : (a == 3) = false := by rcases ha with rfl | rfl <;> decide
  have n1 : ¬ 9223372036854775807 < S.size + C.size := by omega
  have n2 : ¬ 9223372036854775807 < S.size + C.size + 1 := by omega
  have n3 : ¬ 9223372036854775807 < S.size + C.size + 1 + D.size := by omega
  clear ha hc hd
  go_enter Tryz.func58, Tryz.ntmps58
  go_wp2_with fail
  refine (HP _ hT.tab).mono ?_
  rintro e w2 ⟨rfl, hg⟩
  clear HP
  have hG : Gp w w2.heap.size a b c d (w2.alloc (.cells #[.int .i64 a, .bool b, .int .i64 c, .int .i64 d] 75)) := by
    have hk : Kq w (w2.alloc (.cells #[.int .i64 a, .bool b, .int .i64 c, .int .i64 d] 75)) := .of_grown (Grown.alloc hg _ _)
    exact ⟨hk, hT.kq hk, by simp, by simp, by simp, by simp⟩
  clear hT
  go_wp2_with fail
  clear hg
  generalize w2.alloc (.cells #[.int .i64 a, .bool b, .int .i64 c, .int .i64 d] 75) = W at *
  generalize w2.heap.size = B at *
  have k0 : ∀ p : GP w B a b c d, p.w.cell? ⟨B, 0, none⟩ = some (.int .i64 a) := fun p => p.g.k0
  have k1 : ∀ p : GP w B a b c d, p.w.cell? ⟨B, 1, none⟩ = some (.bool b) := fun p => p.g.k1
  have k2 : ∀ p : GP w B a b c d, p.w.cell? ⟨B, 2, none⟩ = some (.int .i64 c) := fun p => p.g.k2
  have k3 : ∀ p : GP w B a b c d, p.w.cell? ⟨B, 3, none⟩ = some (.int .i64 d) := fun p => p.g.k3
  have C1 : ∀ p : GP w B a b c d, Calls Tryz.prog 73 #[.agg #[.int .i64 a, .bool b, .int .i64 c, .int .i64 d]] p.w fun e w' => e = .returned (.string S) ∧ ∃ q : GP w B a b c d, w' = q.w := fun p => (G1 B _ p.g).mono fun _ w' ⟨h, g⟩ => ⟨h, ⟨w', g⟩, rfl⟩
  have C2 : ∀ p : GP w B a b c d, Calls Tryz.prog 57 #[.int .i64 c, .int .i64 10] p.w fun e w' => e = .returned (.string C) ∧ ∃ q : GP w B a b c d, w' = q.w := fun p => (G2 B _ p.g).mono fun _ w' ⟨h, g⟩ => ⟨h, ⟨w', g⟩, rfl⟩
  have C3 : ∀ p : GP w B a b c d, Calls Tryz.prog 74 #[.int .i64 d] p.w fun e w' => e = .returned (.string D) ∧ ∃ q : GP w B a b c d, w' = q.w := fun p => (G3 B _ p.g).mono fun _ w' ⟨h, g⟩ => ⟨h, ⟨w', g⟩, rfl⟩
  clear G1 G2 G3
  have hne : Nonempty (GP w B a b c d) := ⟨⟨W, hG⟩⟩
  refine wp_region_parts hG (by kernel_rfl) (by kernel_rfl) ?_
  repeat (go_big_quiet_step ((first | (go_at_call 73; exact C1 _) | (go_at_call 57; exact C2 _) | (go_at_call 74; exact C3 _))))
  refine wpQuiet_nil ?_
  intro w5 hw'
  have g5 : Kq w w5 := by
    obtain ⟨q, hq⟩ := hw'
    rw [hq]
    exact q.g.kq
  clear hw'
  have GF : Hid (Kq w w5) := g5
  clear g5 C1 C2 C3 k0 k1 k2 k3 hne hG
  go_wp2_with fail
  go_ret
  exact ⟨rfl, GF⟩
end Go.Proofs.YtladepgpandklaaGreatDoor
