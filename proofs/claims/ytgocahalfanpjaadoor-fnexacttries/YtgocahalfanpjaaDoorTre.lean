import Derived.Test.YtgocahalfanpjaaDoorTra
import Derived.Test.YtgocahalfanpjaaDoorCni
import Derived.Deep.QuietTactic
import Derived.BigQuiet
namespace Go.Proofs.YtgocahalfanpjaaDoor.Fo
open Go.ChangeShapes Go.WideShapes Go.ChangeAt Go.RowKit
set_option linter.unusedVariables false
set_option maxRecDepth 100000
set_option maxHeartbeats 16000000 in
theorem im_ixl9 (l : List UInt8) (hl : l.length ≤ 1048576) (w : World) : Calls Tryd.prog 45 #[.string (bt l), .string ⟨#[47]⟩] w fun e w' => e = .returned (.int .i64 (Lib.indexByte l 47)) ∧ w' = w := by
  have h : Calls Tryd.prog 51 #[.string (bt l), .int .u8 47] w fun e w' => e = .returned (.int .i64 (Lib.indexByte l 47)) ∧ w' = w := im_ixs (bt l) 47 w
  by_cases q : l = [47]
  · subst q
    have e0 : bt [47] = ⟨#[47]⟩ := rfl
    have e1 : Lib.indexByte [47] 47 = 0 := by decide
    rw [e0, e1]
    clear h
    go_enter Tryd.func45, Tryd.ntmps45
    go_wp2_with fail
    go_ret
    exact ⟨rfl, rfl⟩
  have ebl : (bt l).toList = l := bt_list l
  have e2 : ([47] == l) = false := by simpa using fun e => q e.symm
  go_enter Tryd.func45, Tryd.ntmps45
  go_wp2_with fail
  refine h.mono ?_
  rintro e w' ⟨rfl, rfl⟩
  go_wp2_with fail
  go_ret
  exact ⟨rfl, rfl⟩
theorem hd_none {l : List UInt8} (h : Lib.indexByte l 47 < 0) : hdB l = l := by unfold hdB; rw [ix_none h]; rfl
theorem hd_some {l : List UInt8} {k : Nat} (h : Lib.indexByte l 47 = (k : Int)) : hdB l = l.take k := by unfold hdB; rw [(ix_some h).2]; rfl
set_option maxHeartbeats 16000000 in
theorem im_lcut (l : List UInt8) (hl : l.length ≤ 1048576) (w : World) : Calls Tryd.prog 33 #[.string (bt l), .string ⟨#[47]⟩] w fun e w' => ∃ t b, e = .returned (.tuple #[.string (bt (hdB l)), .string t, .bool b]) ∧ Kb 0 w w' := by
  have h := im_ixl9 l hl w
  have hD : Hid (∀ n, Kb 0 w (w.drewN n)) := (fun n => (Kb.refl 0 w).drewN n : ∀ n, _)
  rcases Int.lt_or_le (Lib.indexByte l 47) 0 with hx | hx
  · have e1 := hd_none hx
    obtain ⟨p, hp⟩ : ∃ p, p = hdB l := ⟨_, rfl⟩
    rw [← hp] at e1 ⊢
    subst e1
    obtain ⟨r, hr⟩ : ∃ r, r = Lib.indexByte p 47 := ⟨_, rfl⟩
    rw [← hr] at h hx
    have hx2 : ¬ (0 : Int) ≤ r := by omega
    clear hp hr hl hx
    go_enter Tryd.func33, Tryd.ntmps33
    go_wp2_with fail
    refine h.mono ?_
    rintro e w' ⟨rfl, rfl⟩
    clear h
    go_wp2_with fail
    refine bodyPost_ret (by simp [results, Tryd.results33, go_sem]; rfl) rfl ?_
    exact ⟨_, _, rfl, Kb.refl _ _⟩
  · obtain ⟨k, hk⟩ : ∃ k : Nat, Lib.indexByte l 47 = (k : Int) := ⟨(Lib.indexByte l 47).toNat, by omega⟩
    have e1 := hd_some hk
    have hkl := (ix_some hk).1
    rw [hk] at h
    rw [e1]
    have hs1 := fun W => sl_hi (r := l) (k := k) (by omega) W
    have hs2 := fun W => sl_lo (r := l) (k := k) (by omega) W
    have hx2 : (0 : Int) ≤ (k : Int) := by omega
    have hkI : (k : Int) ≤ 1048576 := by omega
    clear hk e1 hx hl hkl
    go_enter Tryd.func33, Tryd.ntmps33
    go_wp2_with fail
    refine h.mono ?_
    rintro e w' ⟨rfl, rfl⟩
    clear h
    go_upto_region 3 with fail
    go_quiet (fail)
    go_wp2_with fail
    refine bodyPost_ret (by simp [results, Tryd.results33, go_sem]; rfl) rfl ?_
    exact ⟨_, _, rfl, (show ∀ n, _ from hD) _⟩
set_option maxHeartbeats 16000000 in
theorem im_cut (l : List UInt8) (hl : l.length ≤ 1048576) (w : World) : Calls Tryd.prog 23 #[.string (bt l), .string ⟨#[47]⟩] w fun e w' => ∃ t b, e = .returned (.tuple #[.string (bt (hdB l)), .string t, .bool b]) ∧ Kb 0 w w' := by
  have h := im_lcut l hl w
  generalize hdB l = p at h ⊢
  clear hl
  go_enter Tryd.func23, Tryd.ntmps23
  go_wp2_with fail
  refine h.mono ?_
  rintro e w' ⟨t, b, rfl, k⟩
  replace k : Hid (Kb 0 w w') := k
  clear h
  go_wp2_with fail
  refine bodyPost_ret (by simp [results, Tryd.results23, go_sem]; rfl) rfl ?_
  exact ⟨_, _, rfl, k⟩
end Go.Proofs.YtgocahalfanpjaaDoor.Fo
