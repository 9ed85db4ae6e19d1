import Derived.Test.YtabffkfoafcmpabDoorHez
namespace Go.Proofs.YtabffkfoafcmpabDoor
open Go.ChangeShapes Go.WideShapes Go.ChangeAt Go.RowKit
set_option linter.unusedVariables false
/-- a world that is good -/
structure GW (w0 : World) (B : Nat) (a : Int) (b : Bool) (c d : Int) where
  w : World
  g : Good w0 B a b c d w
theorem wp_region_good {w0 : World} {B : Nat} {a c d : Int} {b : Bool} {P : Program} {id : Nat} {Q : Exit → Act → World → Prop} {A : Act} {w : World} {l : List Oper} (hG : Good w0 B a b c d w) (hm : P.follows .mixedOrders = true) (hB : Region.lexB .any l.toArray = true)
    (h : wpQuiet P l.toArray (fun w' => ∃ p : GW w0 B a b c d, w' = p.w) (fun a' => ∀ w', (∃ p : GW w0 B a b c d, w' = p.w) → Q .normal a' w') l A) : (Code.region id l.toArray true).wp P Q A w :=
  wp_region_quiet (C := fun w' => ∃ p : GW w0 B a b c d, w' = p.w) hm hB ⟨⟨_, hG.drew⟩, rfl⟩ (by simpa using h)
theorem impl_hex_num (s : Bool) (a c d : Int) (x : Nat) (hc0 : 0 ≤ c) (hc1 : c ≤ 9007199254740992) (hd0 : -3000 ≤ d) (hd1 : d ≤ 3000) (ha : a = 0 ∨ a = 1)
    (H1 : ∀ w, Tab w → Calls Tryd.prog 6 #[.float .f64 x] w fun e w' => e = .returned (.agg #[.int .i64 a, .bool s, .int .i64 c, .int .i64 d]) ∧ Grown w w') (w : World) (hT : Tab w)
    (htab : Lib.TabIs Tryd.prog w "internal/strconv.uint64pow10" .u64 Lib.pow10Tab) :
    Calls Tryd.prog 9 #[.float .f64 x] w fun e w' => e = .returned (.string (hexT s c d)) ∧ Kept w w' := by
  have hl : (sgn s).length ≤ 1 := by cases s <;> simp [sgn]
  have hl2 := wrt_len 16 c.toNat (by omega) (by omega)
  have hl3 : (wri 10 d).length ≤ 65 := by
    unfold wri
    split
    · have := wrt_len 10 (-d).toNat (by omega) (by omega); simp; omega
    · have := wrt_len 10 d.toNat (by omega) (by omega); omega
  have G1 : ∀ (B : Nat) (W : World), Good w B a s c d W → Calls Tryd.prog 20 #[.agg #[.int .i64 a, .bool s, .int .i64 c, .int .i64 d]] W fun e w' => e = .returned (.string ⟨(sgn s).toArray⟩) ∧ Good w B a s c d w' := fun B W h => good_minus W h
  have G2 : ∀ (B : Nat) (W : World), Good w B a s c d W → Calls Tryd.prog 21 #[.int .i64 c, .int .i64 16] W fun e w' => e = .returned (.string ⟨(wrt 16 c.toNat).toArray⟩) ∧ Good w B a s c d w' := fun B W h => good_write hc0 (by omega) W h
  have G3 : ∀ (B : Nat) (W : World), Good w B a s c d W → Calls Tryd.prog 22 #[.int .i64 d] W fun e w' => e = .returned (.string ⟨(wri 10 d).toArray⟩) ∧ Good w B a s c d w' := fun B W h => good_itoa (by omega) (by omega) W h
  unfold hexT
  generalize wrt 16 c.toNat = A at *
  generalize wri 10 d = D at *
  generalize sgn s = S at *
  have h2 : (a == 2) = false := by rcases ha with rfl | rfl <;> decide
  have h3 : (a == 3) = false := by rcases ha with rfl | rfl <;> decide
  clear ha
  go_enter Tryd.func9, Tryd.ntmps9
  go_wp2_with fail
  refine (H1 _ hT).mono ?_
  rintro e w2 ⟨rfl, hg⟩
  clear H1
  have hG : Good w w2.heap.size a s c d (w2.alloc (Obj.cells #[Value.int IntKind.i64 a, Value.bool s, Value.int IntKind.i64 c, Value.int IntKind.i64 d] 24)) := by
    have hk : Kept w (w2.alloc (Obj.cells #[Value.int IntKind.i64 a, Value.bool s, Value.int IntKind.i64 c, Value.int IntKind.i64 d] 24)) := (Grown.alloc hg _ _).1
    exact ⟨hk, hT.kept hk, tabIs_kept htab hk, by simp, by simp, by simp, by simp, by simp⟩
  clear hT htab
  go_wp2_with fail
  clear hg
  generalize w2.alloc (Obj.cells #[Value.int IntKind.i64 a, Value.bool s, Value.int IntKind.i64 c, Value.int IntKind.i64 d] 24) = W at *
  generalize w2.heap.size = B at *
  have k0 : ∀ p : GW w B a s c d, p.w.cell? ⟨B, 0, none⟩ = some (.int .i64 a) := fun p => p.g.k0
  have k1 : ∀ p : GW w B a s c d, p.w.cell? ⟨B, 1, none⟩ = some (.bool s) := fun p => p.g.k1
  have k2 : ∀ p : GW w B a s c d, p.w.cell? ⟨B, 2, none⟩ = some (.int .i64 c) := fun p => p.g.k2
  have k3 : ∀ p : GW w B a s c d, p.w.cell? ⟨B, 3, none⟩ = some (.int .i64 d) := fun p => p.g.k3
  have C1 : ∀ p : GW w B a s c d, Calls Tryd.prog 20 #[.agg #[.int .i64 a, .bool s, .int .i64 c, .int .i64 d]] p.w fun e w' => e = .returned (.string ⟨S.toArray⟩) ∧ ∃ q : GW w B a s c d, w' = q.w := fun p => (G1 B _ p.g).mono fun _ w' ⟨h, g⟩ => ⟨h, ⟨w', g⟩, rfl⟩
  have C2 : ∀ p : GW w B a s c d, Calls Tryd.prog 21 #[.int .i64 c, .int .i64 16] p.w fun e w' => e = .returned (.string ⟨A.toArray⟩) ∧ ∃ q : GW w B a s c d, w' = q.w := fun p => (G2 B _ p.g).mono fun _ w' ⟨h, g⟩ => ⟨h, ⟨w', g⟩, rfl⟩
  have C3 : ∀ p : GW w B a s c d, Calls Tryd.prog 22 #[.int .i64 d] p.w fun e w' => e = .returned (.string ⟨D.toArray⟩) ∧ ∃ q : GW w B a s c d, w' = q.w := fun p => (G3 B _ p.g).mono fun _ w' ⟨h, g⟩ => ⟨h, ⟨w', g⟩, rfl⟩
  clear G1 G2 G3
  have hne : Nonempty (GW w B a s c d) := ⟨⟨W, hG⟩⟩
  refine wp_region_good hG (by kernel_rfl) (by kernel_rfl) ?_
  repeat (go_big_quiet_step ((first | (go_at_call 20; exact C1 _) | (go_at_call 21; exact C2 _) | (go_at_call 22; exact C3 _))))
  refine wpQuiet_nil ?_
  intro _ hw'
  obtain ⟨⟨W', g'⟩, hw''⟩ := hw'
  subst hw''
  go_wp2_with fail
  go_ret
  exact ⟨rfl, g'.from0⟩
end Go.Proofs.YtabffkfoafcmpabDoor
