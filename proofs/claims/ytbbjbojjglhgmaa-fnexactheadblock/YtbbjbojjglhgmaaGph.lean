import Derived.Test.YtbbjbojjglhgmaaGpg
namespace Go.Proofs.Ytbbjbojjglhgmaa.Fo
open Go.ChangeShapes Go.WideShapes Go.ChangeAt Go.RowKit
set_option linter.unusedVariables false
set_option maxRecDepth 100000
/-- the bytes of a value in an image -/
def pvl (v : Gv) : List Int := if v.k = 1 then [1] ++ numb (sgn v.m) else if v.k = 2 then [2] ++ eig (v.m % 18446744073709551616).toNat 8 else if v.k = 3 then [3] ++ numb v.x.size ++ bts v.x else if v.k = 4 then [4] ++ numb v.r.toNat else [0]
/-- what is asked of a value that is packed -/
structure Pok (v : Gv) : Prop where
  k : v.k = 0 ∨ v.k = 1 ∨ v.k = 2 ∨ v.k = 3 ∨ v.k = 4
  m0 : -9223372036854775808 ≤ v.m
  m1 : v.m ≤ 9223372036854775807
  x : v.x.size ≤ 50000000
  r : v.k = 4 → 0 ≤ v.r ∧ v.r ≤ 1000000000
theorem sp_pval {B : Nat} {vo : Value} {l : List Int} {v : Gv} (w : World) (h : w.ownsRow B 5 1 vo l.length (bvs l)) (hB : B ≤ w.heap.size) (hl : l.length ≤ 900000000) (hv : Pok v) :
    Calls Try.prog 124 #[vo, gvv v] w fun e w' => ∃ v', e = .returned v' ∧ w'.ownsRow B 5 1 v' (l ++ pvl v).length (bvs (l ++ pvl v)) ∧ Kx B w w' := by
  obtain ⟨k, m, x, r⟩ := v
  obtain ⟨hk, m0, m1, hx, hr⟩ := hv
  dsimp only at hk m0 m1 hx hr
  unfold gvv pvl
  rcases hk with rfl | rfl | rfl | rfl | rfl
  · exact sp_pval_0 w h hB hl
  · exact sp_pval_1 w h hB hl m0 m1
  · exact sp_pval_2 w h hB hl m0 m1
  · exact sp_pval_3 w h hB hl hx
  · exact sp_pval_4 w h hB hl (hr rfl).1 (hr rfl).2
theorem pvl_len {v : Gv} (hv : Pok v) : (pvl v).length ≤ 11 + v.x.size := by
  obtain ⟨k, m, x, r⟩ := v
  obtain ⟨hk, m0, m1, hx, hr⟩ := hv
  dsimp only at hk m0 m1 hx hr ⊢
  unfold pvl
  rcases hk with rfl | rfl | rfl | rfl | rfl
  · show 1 ≤ _; omega
  · have := numb_ten (sgn_lt m0 m1)
    show (numb (sgn m)).length + 1 ≤ _
    omega
  · show (_ :: eig _ 8).length ≤ _
    rw [List.length_cons, eig_len]; omega
  · have := numb_ten (n := x.size) (by omega)
    show ([3] ++ numb x.size ++ bts x).length ≤ _
    rw [List.length_append, List.length_append, bts_len]
    show 1 + _ + _ ≤ _
    omega
  · have := numb_ten (n := r.toNat) (by have := hr rfl; omega)
    show (numb r.toNat).length + 1 ≤ _
    omega
end Go.Proofs.Ytbbjbojjglhgmaa.Fo
