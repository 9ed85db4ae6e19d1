import Derived.Deep.RegionHeld3
import Derived.Test.YtdkmnggdelchkaaMGbb
import Derived.Test.YtdkmnggdelchkaaMBae
namespace Go.Proofs.Ytdkmnggdelchkaa.Fo
open Go.ChangeShapes Go.WideShapes Go.ChangeAt Go.RowKit
set_option linter.unusedVariables false
set_option maxRecDepth 100000
/-- what a marking from k on writes into cell j of a row of values -/
def mkv (k : Int) (j : Nat) : Value := if j % 4 = 2 then .string (⟨#[109]⟩ ++ mtl (k + (j : Int)).toNat ⟨#[]⟩) else .int .i64 (k + (j : Int))
theorem mkv_int {k K : Int} {j : Nat} (h : j % 4 ≠ 2) (e : k + (j : Int) = K) : mkv k j = .int .i64 K := by
  unfold mkv
  rw [if_neg h, e]
theorem mkv_str {k K : Int} {j : Nat} (h : j % 4 = 2) (e : k + (j : Int) = K) : mkv k j = .string (⟨#[109]⟩ ++ mtl K.toNat ⟨#[]⟩) := by
  unfold mkv
  rw [if_pos h, e]
/-- a row of values that lies alone in a block -/
def OwV (W : World) (v : Value) (b c : Nat) : Prop := ∃ p cap, v = .slice p c cap ∧ (0 < c → p = some ⟨b, 0, none⟩ ∧ c ≤ cap ∧ (∀ j, j < c * 4 → ∃ u, W.cell? ⟨b, j, none⟩ = some u) ∧ ∀ j, W.frozen? ⟨b, j, none⟩ = false)
/-- such a row, marked from k on -/
def MdV (W : World) (v : Value) (b c : Nat) (k : Int) : Prop := ∃ p cap, v = .slice p c cap ∧ (0 < c → p = some ⟨b, 0, none⟩ ∧ c ≤ cap ∧ ∀ j, j < c * 4 → W.cell? ⟨b, j, none⟩ = some (mkv k j))
theorem MdV.block {W W' : World} {v : Value} {b c : Nat} {k : Int} (h : MdV W v b c k) (hb : 0 < c → W'.heap[b]? = W.heap[b]?) : MdV W' v b c k := by
  obtain ⟨p, cap, h1, h2⟩ := h
  exact ⟨p, cap, h1, fun hc => ⟨(h2 hc).1, (h2 hc).2.1, fun j hj => (World.cell?_of_block (hb hc)).trans ((h2 hc).2.2 j hj)⟩⟩
theorem OwV.block {W W' : World} {v : Value} {b c : Nat} (h : OwV W v b c) (hb : 0 < c → W'.heap[b]? = W.heap[b]?) : OwV W' v b c := by
  obtain ⟨p, cap, h1, h2⟩ := h
  refine ⟨p, cap, h1, fun hc => ⟨(h2 hc).1, (h2 hc).2.1, fun j hj => ?_, fun j => (World.frozen?_of_block (hb hc)).trans ((h2 hc).2.2.2 j)⟩⟩
  obtain ⟨u, hu⟩ := (h2 hc).2.2.1 j hj
  exact ⟨u, (World.cell?_of_block (hb hc)).trans hu⟩
end Go.Proofs.Ytdkmnggdelchkaa.Fo
