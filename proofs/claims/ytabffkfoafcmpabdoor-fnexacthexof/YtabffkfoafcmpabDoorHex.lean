import Derived.Test.YtabffkfoafcmpabDoorFmv
import Derived.Test.YtabffkfoafcmpabDoorShelf
import Derived.Lib.ItoaNum
import Derived.Below
namespace Go.Proofs.YtabffkfoafcmpabDoor
open Go.ChangeShapes Go.WideShapes Go.ChangeAt Go.RowKit
set_option linter.unusedVariables false
/-- nothing that was there has turned -/
def Kept (w w' : World) : Prop := w.keptBut w' (fun _ => False)
theorem Kept.refl (w : World) : Kept w w := World.keptBut_refl _ _
theorem Kept.trans {a b c : World} (h : Kept a b) (g : Kept b c) : Kept a c := World.keptBut_trans h g
theorem kept_grow (w : World) (k : Nat) (os : Array Obj) : Kept w (Go.Sort.grow (w.drewN k) os) := by
  have h : Below w.heap.size w (Go.Sort.grow (w.drewN k) os) := ⟨rfl, rfl, rfl, by simp [Go.Sort.grow], fun j hj => by simp [Go.Sort.grow, Array.getElem?_append_left hj]⟩
  exact h.frame _
theorem d10 : ∀ i : Fin 10, UInt8.ofNat (48 + i.val) = dg i.val := by decide
theorem dec_wrt (u : Nat) : Lib.decDigits u = wrt 10 u := by
  induction u using Nat.strongRecOn with
  | _ u ih =>
    rw [Lib.decDigits]
    by_cases h : u < 10
    · rw [dif_pos h, wrt_last 10 u (by omega) h, d10 ⟨u, h⟩]
    · rw [dif_neg h, wrt_step 10 u (by omega) (by omega), ih (u / 10) (by omega), d10 ⟨u % 10, by omega⟩]
theorem itoa_wri (n : Int) : Lib.itoa n = wri 10 n := by
  unfold Lib.itoa wri
  by_cases h : n < 0
  · rw [if_pos h, if_pos h, dec_wrt]
    congr 2
    omega
  · rw [if_neg h, if_neg h, dec_wrt]
theorem tabIs_kept {P : Program} {w w' : World} {name : String} {k : IntKind} {zs : List Int} (h : Lib.TabIs P w name k zs) (hk : Kept w w') : Lib.TabIs P w' name k zs := by
  unfold Lib.TabIs World.var? at *
  cases hg : P.globalNamed name with
  | none => rw [hg] at h; simp at h
  | some g =>
    rw [hg] at h
    simp only [Option.bind_some] at h ⊢
    have hlt : g < w.heap.size := by
      refine Nat.lt_of_not_le fun g2 => ?_
      have e : w.heap[g]? = none := Array.getElem?_eq_none_iff.2 g2
      rw [e] at h
      simp at h
    have := hk.2.2 g hlt
    split at this
    · rename_i c t fr c' t' fr' h1 h2
      rw [h1] at h
      rw [h2]
      simp only [Option.some.injEq] at h ⊢
      rw [← h]
      exact Array.ext_getElem? fun j => this.2.2.2 j (fun f => f)
    · rename_i h1 h2
      rw [h1] at h
      simp at h
    · rename_i o o' hne
      rw [this]
      exact h
theorem Tab.kept {a b : World} (h : Tab a) (g : Kept a b) : Tab b := by
  refine ⟨Nat.lt_of_lt_of_le h.lt (World.keptBut.size g), fun j hj => ?_⟩
  rw [World.keptBut.cell g h.lt (fun f => f)]
  exact h.at_ j hj
theorem fmt16 (n : Int) (hn : 0 ≤ n) (hn2 : n ≤ 18446744073709551615) (w : World) (hT : Tab w) :
    Calls Tryd.prog 34 #[.slice none 0 0, .int .u64 n, .int .i64 16, .bool false, .bool false] w fun e w' => e = .returned (.tuple #[.slice none 0 0, .string ⟨(wrt 16 n.toNat).toArray⟩]) ∧ Grown w w' := by
  refine fmt_pow n 16 (by omega) (by omega) (by decide) 4 (by omega) (by decide) (fun w hw => ?_) (by decide) hn hn2 w hT
  have := Any7.bits_TrailingZeros Tryd.lays727 16 (by omega) w (fun _ => hw.at_)
  have h3 : Lib.ctz 64 16 = 4 := by decide
  rw [h3] at this
  exact this
theorem format16 (n : Int) (hn : 0 ≤ n) (hn2 : n ≤ 9223372036854775807) (w : World) (hT : Tab w) :
    Calls Tryd.prog 30 #[.int .i64 n, .int .i64 16] w fun e w' => e = .returned (.string ⟨(wrt 16 n.toNat).toArray⟩) ∧ Kept w w' := by
  have HC : Hid (Calls Tryd.prog 34 #[.slice none 0 0, .int .u64 n, .int .i64 16, .bool false, .bool false] w fun e w' => e = .returned (.tuple #[.slice none 0 0, .string ⟨(wrt 16 n.toNat).toArray⟩]) ∧ Grown w w') := fmt16 n hn (by omega) w hT
  have hneg : ¬ n < 0 := by omega
  clear hT
  generalize wrt 16 n.toNat = L at *
  go_enter Tryd.func30, Tryd.ntmps30
  go_wp2_with fail
  refine (show Calls Tryd.prog 34 #[.slice none 0 0, .int .u64 n, .int .i64 16, .bool false, .bool false] w fun e w' => e = .returned (.tuple #[.slice none 0 0, .string ⟨L.toArray⟩]) ∧ Grown w w' from HC).mono ?_
  rintro e w' ⟨rfl, hg⟩
  go_wp2_with fail
  go_ret
  exact ⟨rfl, hg.1⟩
theorem is_base16 (w : World) : Calls Tryd.prog 26 #[.int .i64 16] w fun e w' => e = .returned (.bool true) ∧ w' = w := by
  go_enter Tryd.func26, Tryd.ntmps26
  go_wp2
  go_ret
  exact ⟨rfl, rfl⟩
theorem write16 (n : Int) (hn : 0 ≤ n) (hn2 : n ≤ 9223372036854775807) (w : World) (hT : Tab w) :
    Calls Tryd.prog 21 #[.int .i64 n, .int .i64 16] w fun e w' => e = .returned (.string ⟨(wrt 16 n.toNat).toArray⟩) ∧ Kept w w' := by
  have HC : Hid (Calls Tryd.prog 30 #[.int .i64 n, .int .i64 16] w fun e w' => e = .returned (.string ⟨(wrt 16 n.toNat).toArray⟩) ∧ Kept w w') := format16 n hn hn2 w hT
  clear hT
  generalize wrt 16 n.toNat = L at *
  go_enter Tryd.func21, Tryd.ntmps21
  go_wp2_with fail
  refine (is_base16 _).mono ?_
  rintro e w' ⟨rfl, rfl⟩
  clear hn hn2
  go_wp2_with fail
  go_in
  go_wp2_with fail
  refine (show Calls Tryd.prog 30 #[.int .i64 n, .int .i64 16] w' fun e w' => e = .returned (.string ⟨L.toArray⟩) ∧ Kept _ w' from HC).mono ?_
  rintro e w2 ⟨rfl, hg⟩
  go_wp2_with fail
  go_ret
  exact ⟨rfl, hg⟩
theorem itoa_run (n : Int) (h0 : -9223372036854775808 ≤ n) (h1 : n ≤ 9223372036854775807) (w : World) (htab : Lib.TabIs Tryd.prog w "internal/strconv.uint64pow10" .u64 Lib.pow10Tab) :
    Calls Tryd.prog 22 #[.int .i64 n] w fun e w' => e = .returned (.string ⟨(wri 10 n).toArray⟩) ∧ Kept w w' := by
  have h := Tryd.strconv_Itoa n h0 h1 w htab
  rw [itoa_wri] at h
  refine h.mono ?_
  rintro e w' ⟨rfl, k, os, rfl⟩
  exact ⟨rfl, kept_grow w k os⟩
/-- a minus, or nothing -/
def sgn (b : Bool) : List UInt8 := if b then [45] else []
theorem minus_run (a c d : Int) (b : Bool) (w : World) :
    Calls Tryd.prog 20 #[.agg #[.int .i64 a, .bool b, .int .i64 c, .int .i64 d]] w fun e w' => e = .returned (.string ⟨(sgn b).toArray⟩) ∧ Kept w w' := by
  cases b
  · show Calls Tryd.prog 20 #[.agg #[.int .i64 a, .bool false, .int .i64 c, .int .i64 d]] w fun e w' => e = .returned (.string ⟨#[]⟩) ∧ Kept w w'
    go_enter Tryd.func20, Tryd.ntmps20
    go_wp2
    go_ret
    exact ⟨rfl, (Grown.alloc (Grown.refl _) _ _).1⟩
  · show Calls Tryd.prog 20 #[.agg #[.int .i64 a, .bool true, .int .i64 c, .int .i64 d]] w fun e w' => e = .returned (.string ⟨#[45]⟩) ∧ Kept w w'
    go_enter Tryd.func20, Tryd.ntmps20
    go_wp2
    go_ret
    exact ⟨rfl, (Grown.alloc (Grown.refl _) _ _).1⟩
/-- what holds while the text is put together -/
structure Good (w0 : World) (B : Nat) (a : Int) (b : Bool) (c d : Int) (w : World) : Prop where
  from0 : Kept w0 w
  tab : Tab w
  ten : Lib.TabIs Tryd.prog w "internal/strconv.uint64pow10" .u64 Lib.pow10Tab
  lt : B < w.heap.size
  k0 : w.cell? ⟨B, 0, none⟩ = some (.int .i64 a)
  k1 : w.cell? ⟨B, 1, none⟩ = some (.bool b)
  k2 : w.cell? ⟨B, 2, none⟩ = some (.int .i64 c)
  k3 : w.cell? ⟨B, 3, none⟩ = some (.int .i64 d)
theorem Good.kept {w0 : World} {B : Nat} {a c d : Int} {b : Bool} {w w' : World} (h : Good w0 B a b c d w) (g : Kept w w') : Good w0 B a b c d w' := by
  have hk : ∀ j, w'.cell? ⟨B, j, none⟩ = w.cell? ⟨B, j, none⟩ := fun j => World.keptBut.cell g h.lt (fun f => f)
  exact ⟨h.from0.trans g, h.tab.kept g, tabIs_kept h.ten g, Nat.lt_of_lt_of_le h.lt (World.keptBut.size g), (hk 0).trans h.k0, (hk 1).trans h.k1, (hk 2).trans h.k2, (hk 3).trans h.k3⟩
theorem Good.drewN {w0 : World} {B : Nat} {a c d : Int} {b : Bool} {w : World} (h : Good w0 B a b c d w) (n : Nat) : Good w0 B a b c d (w.drewN n) := h.kept (by have h2 : Below w.heap.size w (w.drewN n) := ⟨rfl, rfl, rfl, Nat.le_refl _, fun j hj => rfl⟩; exact h2.frame _)
theorem Good.drew {w0 : World} {B : Nat} {a c d : Int} {b : Bool} {w : World} (h : Good w0 B a b c d w) : Good w0 B a b c d w.drew := h.kept (by have h2 : Below w.heap.size w w.drew := ⟨rfl, rfl, rfl, Nat.le_refl _, fun j hj => rfl⟩; exact h2.frame _)
theorem good_minus {w0 : World} {B : Nat} {a c d : Int} {b : Bool} (w : World) (h : Good w0 B a b c d w) :
    Calls Tryd.prog 20 #[.agg #[.int .i64 a, .bool b, .int .i64 c, .int .i64 d]] w fun e w' => e = .returned (.string ⟨(sgn b).toArray⟩) ∧ Good w0 B a b c d w' :=
  (minus_run a c d b w).mono fun e w' ⟨h1, h2⟩ => ⟨h1, h.kept h2⟩
theorem good_write {w0 : World} {B : Nat} {a c d : Int} {b : Bool} (hc : 0 ≤ c) (hc2 : c ≤ 9223372036854775807) (w : World) (h : Good w0 B a b c d w) :
    Calls Tryd.prog 21 #[.int .i64 c, .int .i64 16] w fun e w' => e = .returned (.string ⟨(wrt 16 c.toNat).toArray⟩) ∧ Good w0 B a b c d w' :=
  (write16 c hc hc2 w h.tab).mono fun e w' ⟨h1, h2⟩ => ⟨h1, h.kept h2⟩
theorem good_itoa {w0 : World} {B : Nat} {a c d : Int} {b : Bool} (hd : -9223372036854775808 ≤ d) (hd2 : d ≤ 9223372036854775807) (w : World) (h : Good w0 B a b c d w) :
    Calls Tryd.prog 22 #[.int .i64 d] w fun e w' => e = .returned (.string ⟨(wri 10 d).toArray⟩) ∧ Good w0 B a b c d w' :=
  (itoa_run d hd hd2 w h.ten).mono fun e w' ⟨h1, h2⟩ => ⟨h1, h.kept h2⟩
end Go.Proofs.YtabffkfoafcmpabDoor
