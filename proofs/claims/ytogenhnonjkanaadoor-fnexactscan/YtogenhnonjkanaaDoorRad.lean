import Derived.Test.YtogenhnonjkanaaDoorRab
namespace Go.Proofs.YtogenhnonjkanaaDoor.Rd
open Go.ChangeShapes Go.WideShapes Go.ChangeAt Go.RowKit Go.Proofs.YtogenhnonjkanaaDoor
set_option linter.unusedVariables false
theorem uint_any (b : Nat) (hb : b = 10) (hb2 : b ≤ 36) (T : ByteArray) (L : List UInt8) (hT : T.data.toList = L) (hlen : L.length ≤ 1200) (hd : ∀ c ∈ L, dv c < b) (hne : 0 < L.length) (w : World) :
    Calls Tryd.prog 96 #[.string T, .int .i64 (b : Int), .int .i64 64] w fun e w' => e = .returned (unt (rd b 0 L)) ∧ w' = Lib.bytesWorld w 5 T := by
  subst hb; exact uint_10 T L hT hlen hd hne w
theorem neq11 (W : World) : (binOp .neq 71 (.iface 112 (.int .i64 1)) (.iface 112 (.int .i64 1))).run Tryd.prog W = .ok (.bool false) W :=
  Lib.run_neq_iface_int W 1 1 Tryd.underlying71 (by kernel_rfl) Tryd.underlying112
theorem hmin : wrap64 (-wrap64 9223372036854775808) = -9223372036854775808 := by decide +kernel
/-- the number, or ErrRange -/
inductive Told27 (p : Int × Int) : Ending → Prop
  | ok {z : Int} (h : p = (0, z)) : Told27 p (.returned (.tuple #[.int .i64 z, .nilIface]))
  | err (h : p = (3, 0)) (s : Int) : Told27 p (.returned (.tuple #[.int .i64 s, .iface 112 (.int .i64 1)]))
theorem Told27.okE {p : Int × Int} {z y : Int} (h : p = (0, z)) (e : y = z) : Told27 p (.returned (.tuple #[.int .i64 y, .nilIface])) := by subst e; exact .ok h
set_option maxRecDepth 100000 in
set_option maxHeartbeats 4000000 in
theorem int_other (b : Nat) (hb : b = 10) (hb2 : b ≤ 36) (T R : ByteArray) (L LR : List UInt8) (hT : T.data.toList = L) (hlen : L.length ≤ 1200) (hR : R.data.toList = LR) (hTR : R = T) (c : UInt8) (r : List UInt8) (hL : LR = c :: r) (h1 : c.toNat ≠ 45) (h2 : c.toNat ≠ 43) (hall : ∀ c ∈ LR, dv c < b) (hne : 0 < LR.length) (w : World) :
    Calls Tryd.prog 98 #[.string T, .int .i64 b, .int .i64 64] w fun e w' => Told27 (ansT b false LR) e ∧ Below w.heap.size w w' := by
  have hsz : T.size = L.length := by rw [← hT]; simp
  have hlr : LR.length ≤ 1200 := by have : LR = L := hR.symm.trans (by rw [hTR]; exact hT); rw [this]; exact hlen
  have hU := uint_any b hb hb2 R LR hR hlr hall hne w
  clear hb
  have hbel := Lib.bytesWorld_below w 5 R
  generalize Lib.bytesWorld w 5 R = W1 at hU hbel
  have hq1 := neq11
  subst hTR
  have hx0 : ∀ w, (Instr.index 9 (.string R) (.int .i64 0)).run Tryd.prog w = .ok (.int .u8 (c.toNat : Int)) w := ix R LR hR 0 c (by rw [hL]; rfl)
  have hsr : R.size = LR.length := by rw [← hR]; simp
  have hemp := empT R (by omega)
  have j1 : ((c.toNat : Int) == 45) = false := by simp; omega
  have j2 : ((c.toNat : Int) == 43) = false := by simp; omega
  clear hT hL hlen hsz hR h1 h2 hsr
  generalize (c.toNat : Int) = n0 at *
  cases hrd : rd b 0 LR with
  | none =>
    have HE : Hid (ansT b false LR = (3, 0)) := ans_none b false LR hall hne hrd
    rw [hrd] at hU
    have hU' : Calls Tryd.prog 96 #[.string R, .int .i64 b, .int .i64 64] w fun e w' => e = .returned (.tuple #[.int .u64 18446744073709551615, .iface 112 (.int .i64 1)]) ∧ w' = W1 := hU
    clear hU hrd hall
    go_enter Tryd.func98, Tryd.ntmps98
    go_wp2_with (go_at_call 96; refine hU'.mono ?_; rintro e w1 ⟨rfl, rfl⟩)
    go_ret2
    exact ⟨Told27.err HE _, hbel⟩
  | some v =>
    have hvlt := rd_lt b LR 0 v (by omega) hrd
    have HE := ans_some b false LR hall hne v hrd
    rw [hrd] at hU
    have hU' : Calls Tryd.prog 96 #[.string R, .int .i64 b, .int .i64 64] w fun e w' => e = .returned (.tuple #[.int .u64 (v : Int), .nilIface]) ∧ w' = W1 := hU
    clear hU hrd hall
    rcases Nat.lt_trichotomy v 9223372036854775808 with hv | hv | hv
    · have HE2 : Hid (ansT b false LR = (0, (v : Int))) := by
        show ansT b false LR = (0, (v : Int))
        rw [HE, if_neg (by omega)]
        rfl
      have i0 : (0 : Int) ≤ (v : Int) := by omega
      have i1 : (v : Int) < 9223372036854775808 := by omega
      clear HE hv hvlt
      generalize (v : Int) = z at *
      go_enter Tryd.func98, Tryd.ntmps98
      go_wp2_with (go_at_call 96; refine hU'.mono ?_; rintro e w1 ⟨rfl, rfl⟩)
      go_ret2
      exact ⟨Told27.ok HE2, hbel⟩
    · subst hv
      have hU2 : Calls Tryd.prog 96 #[.string R, .int .i64 b, .int .i64 64] w fun e w' => e = .returned (.tuple #[.int .u64 9223372036854775808, .nilIface]) ∧ w' = W1 := hU'
      have HE2 : Hid (ansT b false LR = (3, 0)) := by
        show ansT b false LR = (3, 0)
        rw [HE]
        rfl
      clear HE hvlt hU'
      go_enter Tryd.func98, Tryd.ntmps98
      go_wp2_with (go_at_call 96; refine hU2.mono ?_; rintro e w1 ⟨rfl, rfl⟩)
      go_ret2
      exact ⟨Told27.err HE2 _, hbel⟩
    · have HE2 : Hid (ansT b false LR = (3, 0)) := by
        show ansT b false LR = (3, 0)
        rw [HE, if_pos (Or.inl hv)]
      have i0 : (9223372036854775808 : Int) < (v : Int) := by omega
      have i1 : (v : Int) < 18446744073709551616 := by omega
      clear HE hv hvlt
      generalize (v : Int) = z at *
      go_enter Tryd.func98, Tryd.ntmps98
      go_wp2_with (go_at_call 96; refine hU'.mono ?_; rintro e w1 ⟨rfl, rfl⟩)
      go_ret2
      exact ⟨Told27.err HE2 _, hbel⟩
end Go.Proofs.YtogenhnonjkanaaDoor.Rd
