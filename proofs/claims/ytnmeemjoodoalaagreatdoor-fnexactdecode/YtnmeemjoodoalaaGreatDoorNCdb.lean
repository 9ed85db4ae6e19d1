import Derived.Test.YtnmeemjoodoalaaGreatDoorNCbi
import Derived.Test.YtnmeemjoodoalaaGreatDoorNCda
import Derived.Test.YtnmeemjoodoalaaGreatDoorNCfc
import Derived.Test.YtnmeemjoodoalaaGreatDoorNCba
import Derived.Deep.RegionHeldLaw
set_option maxHeartbeats 16000000
namespace Go.Proofs.YtnmeemjoodoalaaGreatDoor.Fo
open Go.ChangeShapes Go.WideShapes Go.ChangeAt Go.RowKit
set_option linter.unusedVariables false
set_option maxRecDepth 100000
def Fb (P : Nat → Prop) (n : Nat) (r : Int) : Prop:=(r = -1 ∧ ∀ j,j < n → P j) ∨ ∃ j : Nat,r = (j : Int) ∧ j < n ∧ ¬ P j ∧ ∀ i,i < j → P i
theorem vok_g {v : Vv} (h : vok v) (h3 : v.k ≠ 3) (hg : v.g < 18446744073709551616) : v.g = 0 ∨ v.g = 9223372036854775808:=by
  have hz : Go.Proofs.YtnmeemjoodoalaaGreatDoor.fz v.g:=by
    unfold vok zr at h
    rcases h with h | h | h | h | h | h | h | h | h
    all_goals first
      | exact absurd h.1 h3
      | (have q:=h.2.1.2.1;simpa using q)
  rcases Flt.zero_cases v.g hg with q | ⟨_,_,q⟩ | ⟨_,q⟩
  · rcases Flt.order_cases v.g 0 with ⟨_,e⟩ | ⟨e,_⟩ | ⟨e,_⟩
    · unfold Go.Proofs.YtnmeemjoodoalaaGreatDoor.fz at hz;rw [e] at hz;cases hz
    · rw [q] at e;cases e
    · rw [q] at e;cases e
  · exact q
  · unfold Go.Proofs.YtnmeemjoodoalaaGreatDoor.fz at hz
    rcases q with q | q <;> (rw [q] at hz;cases hz)
theorem flt_c (g : Nat) : FloatKind.f64.format.order g g = none ∨ FloatKind.f64.format.order g g = some .eq:=by
  rcases Flt.order_cases g g with ⟨e,_⟩ | ⟨e,_⟩ | ⟨e,_⟩
  · exact .inl e
  · exact .inr e
  · exact .inr e
theorem nan_t {g : Nat} (h : FloatKind.f64.format.order g g = none) (w : World) : Calls Tryz.prog 140 #[.float .f64 g] w fun e w'=>e = .returned (.bool true) ∧ w' = w:=by
  go_enter Tryz.func140,Tryz.ntmps140
  go_wp2
  go_ret
  exact ⟨rfl,rfl⟩
theorem nan_f {g : Nat} (h : FloatKind.f64.format.order g g = some .eq) (w : World) : Calls Tryz.prog 140 #[.float .f64 g] w fun e w'=>e = .returned (.bool false) ∧ w' = w:=by
  go_enter Tryz.func140,Tryz.ntmps140
  go_wp2
  go_ret
  exact ⟨rfl,rfl⟩
theorem bits_ext (x : Nat) (w : World) : (callFunc 153 #[.float .f64 x]).run Tryz.prog w = .ok (.value (.int .u64 x)) w:=by
  rw [run_callFunc_extern (e:=Extern.MathFloatBits.float64bits) Tryz.func153 (by kernel_rfl) (by kernel_rfl) (by kernel_rfl) (by kernel_rfl)]
  rfl
theorem sign_f (w : World) : Calls Tryz.prog 142 #[.float .f64 0] w fun e w'=>e = .returned (.bool false) ∧ w' = w:=by
  have hb:=bits_ext 0
  go_enter Tryz.func142,Tryz.ntmps142
  go_wp2_with fail
  go_ret
  exact ⟨rfl,rfl⟩
theorem sign_t (w : World) : Calls Tryz.prog 142 #[.float .f64 9223372036854775808] w fun e w'=>e = .returned (.bool true) ∧ w' = w:=by
  have hb:=bits_ext 9223372036854775808
  have hc : IntKind.i64.wrap 9223372036854775808 = -9223372036854775808:=by decide
  go_enter Tryz.func142,Tryz.ntmps142
  go_wp2_with fail
  go_ret
  exact ⟨rfl,rfl⟩
theorem thing_t {k m : Int} {g : Nat} {x : ByteArray} {r : Int} (h : k = 5 ∨ k = 6 ∨ k = 7) (w : World) : Calls Tryz.prog 141 #[.agg #[.int .i64 k,.int .i64 m,.float .f64 g,.string x,.int .i64 r]] w fun e w'=>e = .returned (.bool true) ∧ Kb 0 w w':=by
  rcases h with rfl | rfl | rfl
  all_goals
    go_enter Tryz.func141,Tryz.ntmps141
    go_wp2_with fail
    go_ret
    exact ⟨rfl,kb_alloc _ _ _⟩
theorem thing_f {k m : Int} {g : Nat} {x : ByteArray} {r : Int} (h : k ≠ 5 ∧ k ≠ 6 ∧ k ≠ 7) (w : World) : Calls Tryz.prog 141 #[.agg #[.int .i64 k,.int .i64 m,.float .f64 g,.string x,.int .i64 r]] w fun e w'=>e = .returned (.bool false) ∧ Kb 0 w w':=by
  have h5:=bne h.1
  have h6:=bne h.2.1
  have h7:=bne h.2.2
  go_enter Tryz.func141,Tryz.ntmps141
  go_wp2_with fail
  go_ret
  exact ⟨rfl,kb_alloc _ _ _⟩
theorem sp_const (v : Vv) (hx : (v.x.size : Int) ≤ 1048576) (hg : v.g < 18446744073709551616) (w : World) : Calls Tryz.prog 96 #[valv v] w fun e w'=>e = .returned (.bool (dc (Cok v))) ∧ Kb 0 w w':=by
  have HO : ∀ W,Calls Tryz.prog 132 #[vv v] W fun e w'=>e = .returned (.bool (dc (vok v))) ∧ Kb 0 W w':=fun W=>by
    refine (sp_ok v hx W).mono ?_
    rintro e w' ⟨rfl,h⟩
    exact ⟨rfl,Kb.of_grown h h.2.2 0⟩
  have hvg:=fun h h3=>vok_g (v:=v) h h3 hg
  have hfc:=flt_c v.g
  unfold valv
  unfold vv at HO
  by_cases hv : vok v
  rotate_left
  · rw [dc_f (fun q=>hv q.1)]
    rw [dc_f hv] at HO
    obtain ⟨k,m,g,x,r⟩:=v
    clear hvg hv
    dsimp only at *
    by_cases h3 : k = 3
    · subst h3
      go_enter Tryz.func96,Tryz.ntmps96
      go_wp2_with fail
      refine (HO _).mono ?_
      rintro e w1 ⟨rfl,k1⟩
      have q0 : w1.cell? ⟨w.heap.size,0,none⟩ = some (.int .i64 3):=k1.cell (cell_of (alloc_new w _ _) rfl)
      have q1 : w1.cell? ⟨w.heap.size,1,none⟩ = some (.int .i64 m):=k1.cell (cell_of (alloc_new w _ _) rfl)
      have q2 : w1.cell? ⟨w.heap.size,2,none⟩ = some (.float .f64 g):=k1.cell (cell_of (alloc_new w _ _) rfl)
      have q3 : w1.cell? ⟨w.heap.size,3,none⟩ = some (.string x):=k1.cell (cell_of (alloc_new w _ _) rfl)
      have q4 : w1.cell? ⟨w.heap.size,4,none⟩ = some (.int .i64 r):=k1.cell (cell_of (alloc_new w _ _) rfl)
      have HK : Hid (Kb 0 w w1):=(kb_alloc _ _ _).trans k1
      clear k1
      go_wp2_with fail
      go_ret
      exact ⟨rfl,HK⟩
    · have h3:=bne h3
      go_enter Tryz.func96,Tryz.ntmps96
      go_wp2_with fail
      refine (HO _).mono ?_
      rintro e w1 ⟨rfl,k1⟩
      have q0 : w1.cell? ⟨w.heap.size,0,none⟩ = some (.int .i64 k):=k1.cell (cell_of (alloc_new w _ _) rfl)
      have q1 : w1.cell? ⟨w.heap.size,1,none⟩ = some (.int .i64 m):=k1.cell (cell_of (alloc_new w _ _) rfl)
      have q2 : w1.cell? ⟨w.heap.size,2,none⟩ = some (.float .f64 g):=k1.cell (cell_of (alloc_new w _ _) rfl)
      have q3 : w1.cell? ⟨w.heap.size,3,none⟩ = some (.string x):=k1.cell (cell_of (alloc_new w _ _) rfl)
      have q4 : w1.cell? ⟨w.heap.size,4,none⟩ = some (.int .i64 r):=k1.cell (cell_of (alloc_new w _ _) rfl)
      have HK : Hid (Kb 0 w w1):=(kb_alloc _ _ _).trans k1
      clear k1
      go_wp2_with fail
      go_ret
      exact ⟨rfl,HK⟩
  rw [dc_t hv] at HO
  by_cases h5 : v.k = 5 ∨ v.k = 6 ∨ v.k = 7
  · rw [dc_f (fun q=>h5.elim q.2.1.1 (fun h=>h.elim q.2.1.2.1 q.2.1.2.2))]
    obtain ⟨k,m,g,x,r⟩:=v
    clear hvg hv hfc
    dsimp only at *
    have HT:=fun w=>thing_t (m:=m) (g:=g) (x:=x) (r:=r) h5 w
    rcases h5 with rfl | rfl | rfl
    · skip
      go_enter Tryz.func96,Tryz.ntmps96
      go_wp2_with fail
      refine (HO _).mono ?_
      rintro e w1 ⟨rfl,k1⟩
      have q0 : w1.cell? ⟨w.heap.size,0,none⟩ = some (.int .i64 5):=k1.cell (cell_of (alloc_new w _ _) rfl)
      have q1 : w1.cell? ⟨w.heap.size,1,none⟩ = some (.int .i64 m):=k1.cell (cell_of (alloc_new w _ _) rfl)
      have q2 : w1.cell? ⟨w.heap.size,2,none⟩ = some (.float .f64 g):=k1.cell (cell_of (alloc_new w _ _) rfl)
      have q3 : w1.cell? ⟨w.heap.size,3,none⟩ = some (.string x):=k1.cell (cell_of (alloc_new w _ _) rfl)
      have q4 : w1.cell? ⟨w.heap.size,4,none⟩ = some (.int .i64 r):=k1.cell (cell_of (alloc_new w _ _) rfl)
      have HK : Hid (Kb 0 w w1):=(kb_alloc _ _ _).trans k1
      clear k1
      go_wp2_with fail
      go_ret
      exact ⟨rfl,HK⟩
    · skip
      go_enter Tryz.func96,Tryz.ntmps96
      go_wp2_with fail
      refine (HO _).mono ?_
      rintro e w1 ⟨rfl,k1⟩
      have q0 : w1.cell? ⟨w.heap.size,0,none⟩ = some (.int .i64 6):=k1.cell (cell_of (alloc_new w _ _) rfl)
      have q1 : w1.cell? ⟨w.heap.size,1,none⟩ = some (.int .i64 m):=k1.cell (cell_of (alloc_new w _ _) rfl)
      have q2 : w1.cell? ⟨w.heap.size,2,none⟩ = some (.float .f64 g):=k1.cell (cell_of (alloc_new w _ _) rfl)
      have q3 : w1.cell? ⟨w.heap.size,3,none⟩ = some (.string x):=k1.cell (cell_of (alloc_new w _ _) rfl)
      have q4 : w1.cell? ⟨w.heap.size,4,none⟩ = some (.int .i64 r):=k1.cell (cell_of (alloc_new w _ _) rfl)
      have HK : Hid (Kb 0 w w1):=(kb_alloc _ _ _).trans k1
      clear k1
      go_wp2_with fail
      go_ret
      exact ⟨rfl,HK⟩
    · skip
      go_enter Tryz.func96,Tryz.ntmps96
      go_wp2_with fail
      refine (HO _).mono ?_
      rintro e w1 ⟨rfl,k1⟩
      have q0 : w1.cell? ⟨w.heap.size,0,none⟩ = some (.int .i64 7):=k1.cell (cell_of (alloc_new w _ _) rfl)
      have q1 : w1.cell? ⟨w.heap.size,1,none⟩ = some (.int .i64 m):=k1.cell (cell_of (alloc_new w _ _) rfl)
      have q2 : w1.cell? ⟨w.heap.size,2,none⟩ = some (.float .f64 g):=k1.cell (cell_of (alloc_new w _ _) rfl)
      have q3 : w1.cell? ⟨w.heap.size,3,none⟩ = some (.string x):=k1.cell (cell_of (alloc_new w _ _) rfl)
      have q4 : w1.cell? ⟨w.heap.size,4,none⟩ = some (.int .i64 r):=k1.cell (cell_of (alloc_new w _ _) rfl)
      have HK : Hid (Kb 0 w w1):=(kb_alloc _ _ _).trans k1
      clear k1
      go_wp2_with fail
      go_ret
      exact ⟨rfl,HK⟩
  have h5a : v.k ≠ 5:=fun h=>h5 (.inl h)
  have h6a : v.k ≠ 6:=fun h=>h5 (.inr (.inl h))
  have h7a : v.k ≠ 7:=fun h=>h5 (.inr (.inr h))
  by_cases h3 : v.k = 3
  · rcases hfc with hf | hf
    · rw [dc_f (fun q=>(by have:=q.2.2.1 h3;rw [hf] at this;cases this))]
      obtain ⟨k,m,g,x,r⟩:=v
      clear hvg hv h5 h5a h6a h7a
      dsimp only at *
      subst h3
      go_enter Tryz.func96,Tryz.ntmps96
      go_wp2_with fail
      refine (HO _).mono ?_
      rintro e w1 ⟨rfl,k1⟩
      have q0 : w1.cell? ⟨w.heap.size,0,none⟩ = some (.int .i64 3):=k1.cell (cell_of (alloc_new w _ _) rfl)
      have q1 : w1.cell? ⟨w.heap.size,1,none⟩ = some (.int .i64 m):=k1.cell (cell_of (alloc_new w _ _) rfl)
      have q2 : w1.cell? ⟨w.heap.size,2,none⟩ = some (.float .f64 g):=k1.cell (cell_of (alloc_new w _ _) rfl)
      have q3 : w1.cell? ⟨w.heap.size,3,none⟩ = some (.string x):=k1.cell (cell_of (alloc_new w _ _) rfl)
      have q4 : w1.cell? ⟨w.heap.size,4,none⟩ = some (.int .i64 r):=k1.cell (cell_of (alloc_new w _ _) rfl)
      have HK : Hid (Kb 0 w w1):=(kb_alloc _ _ _).trans k1
      clear k1
      go_wp2_with fail
      go_ret
      exact ⟨rfl,HK⟩
    · rw [dc_t ⟨hv,⟨h5a,h6a,h7a⟩,fun _=>hf,fun h=>absurd h3 h⟩]
      obtain ⟨k,m,g,x,r⟩:=v
      clear hvg hv h5 h5a h6a h7a
      dsimp only at *
      subst h3
      go_enter Tryz.func96,Tryz.ntmps96
      go_wp2_with fail
      refine (HO _).mono ?_
      rintro e w1 ⟨rfl,k1⟩
      have q0 : w1.cell? ⟨w.heap.size,0,none⟩ = some (.int .i64 3):=k1.cell (cell_of (alloc_new w _ _) rfl)
      have q1 : w1.cell? ⟨w.heap.size,1,none⟩ = some (.int .i64 m):=k1.cell (cell_of (alloc_new w _ _) rfl)
      have q2 : w1.cell? ⟨w.heap.size,2,none⟩ = some (.float .f64 g):=k1.cell (cell_of (alloc_new w _ _) rfl)
      have q3 : w1.cell? ⟨w.heap.size,3,none⟩ = some (.string x):=k1.cell (cell_of (alloc_new w _ _) rfl)
      have q4 : w1.cell? ⟨w.heap.size,4,none⟩ = some (.int .i64 r):=k1.cell (cell_of (alloc_new w _ _) rfl)
      have HK : Hid (Kb 0 w w1):=(kb_alloc _ _ _).trans k1
      clear k1
      go_wp2_with fail
      go_ret
      exact ⟨rfl,HK⟩
  rcases hvg hv h3 with hz | hz
  · rw [dc_t ⟨hv,⟨h5a,h6a,h7a⟩,fun h=>absurd h h3,fun _=>hz⟩]
    obtain ⟨k,m,g,x,r⟩:=v
    clear hvg hv h5 hfc
    dsimp only at *
    subst hz
    have HT:=fun w=>thing_f (m:=m) (g:=0) (x:=x) (r:=r) ⟨h5a,h6a,h7a⟩ w
    have h3:=bne h3
    have h5:=bne h5a
    have h6:=bne h6a
    have h7:=bne h7a
    have hq:=quo_run (x:=0) (r:=9218868437227405312) (by decide)
    have hgt : FloatKind.f64.format.order 9218868437227405312 0 = some .gt:=by decide
    have hz0 : FloatKind.f64.format.order 0 0 = some .eq:=by decide
    go_enter Tryz.func96,Tryz.ntmps96
    go_wp2_with fail
    refine (HO _).mono ?_
    rintro e w1 ⟨rfl,k1⟩
    have q0 : w1.cell? ⟨w.heap.size,0,none⟩ = some (.int .i64 k):=k1.cell (cell_of (alloc_new w _ _) rfl)
    have q1 : w1.cell? ⟨w.heap.size,1,none⟩ = some (.int .i64 m):=k1.cell (cell_of (alloc_new w _ _) rfl)
    have q2 : w1.cell? ⟨w.heap.size,2,none⟩ = some (.float .f64 0):=k1.cell (cell_of (alloc_new w _ _) rfl)
    have q3 : w1.cell? ⟨w.heap.size,3,none⟩ = some (.string x):=k1.cell (cell_of (alloc_new w _ _) rfl)
    have q4 : w1.cell? ⟨w.heap.size,4,none⟩ = some (.int .i64 r):=k1.cell (cell_of (alloc_new w _ _) rfl)
    have HK : Hid (Kb 0 w w1):=(kb_alloc _ _ _).trans k1
    clear k1
    go_wp2
    go_ret
    exact ⟨rfl,HK⟩
  · rw [dc_f (fun q=>(by have:=q.2.2.2 h3;rw [hz] at this;cases this))]
    obtain ⟨k,m,g,x,r⟩:=v
    clear hvg hv h5 hfc
    dsimp only at *
    subst hz
    have HT:=fun w=>thing_f (m:=m) (g:=9223372036854775808) (x:=x) (r:=r) ⟨h5a,h6a,h7a⟩ w
    have h3:=bne h3
    have h5:=bne h5a
    have h6:=bne h6a
    have h7:=bne h7a
    have hq:=quo_run (x:=9223372036854775808) (r:=18442240474082181120) (by decide)
    have hgt : FloatKind.f64.format.order 18442240474082181120 0 = some .lt:=by decide
    have hz0 : FloatKind.f64.format.order 9223372036854775808 0 = some .eq:=by decide
    go_enter Tryz.func96,Tryz.ntmps96
    go_wp2_with fail
    refine (HO _).mono ?_
    rintro e w1 ⟨rfl,k1⟩
    have q0 : w1.cell? ⟨w.heap.size,0,none⟩ = some (.int .i64 k):=k1.cell (cell_of (alloc_new w _ _) rfl)
    have q1 : w1.cell? ⟨w.heap.size,1,none⟩ = some (.int .i64 m):=k1.cell (cell_of (alloc_new w _ _) rfl)
    have q2 : w1.cell? ⟨w.heap.size,2,none⟩ = some (.float .f64 9223372036854775808):=k1.cell (cell_of (alloc_new w _ _) rfl)
    have q3 : w1.cell? ⟨w.heap.size,3,none⟩ = some (.string x):=k1.cell (cell_of (alloc_new w _ _) rfl)
    have q4 : w1.cell? ⟨w.heap.size,4,none⟩ = some (.int .i64 r):=k1.cell (cell_of (alloc_new w _ _) rfl)
    have HK : Hid (Kb 0 w w1):=(kb_alloc _ _ _).trans k1
    clear k1
    go_wp2
    go_ret
    exact ⟨rfl,HK⟩
theorem im_nocon (v : Vv) (hx : (v.x.size : Int) ≤ 1048576) (hg : v.g < 18446744073709551616) (w : World) : Calls Tryz.prog 106 #[valv v] w fun e w'=>e = .returned (.bool (dc (¬ Cok v))) ∧ Kb 0 w w':=by
  have HO : ∀ W,Calls Tryz.prog 139 #[vv v] W fun e w'=>e = .returned (.bool (dc (vok v))) ∧ Kb 0 W w':=fun W=>by
    refine (im_ok v hx W).mono ?_
    rintro e w' ⟨rfl,h⟩
    exact ⟨rfl,Kb.of_grown h h.2.2 0⟩
  have hvg:=fun h h3=>vok_g (v:=v) h h3 hg
  have hfc:=flt_c v.g
  unfold valv
  unfold vv at HO
  by_cases hv : vok v
  rotate_left
  · rw [dc_t (fun q : Cok _=>hv q.1)]
    rw [dc_f hv] at HO
    obtain ⟨k,m,g,x,r⟩:=v
    clear hvg hv
    dsimp only at *
    by_cases h3 : k = 3
    · subst h3
      go_enter Tryz.func106,Tryz.ntmps106
      go_wp2_with fail
      refine (HO _).mono ?_
      rintro e w1 ⟨rfl,k1⟩
      have q0 : w1.cell? ⟨w.heap.size,0,none⟩ = some (.int .i64 3):=k1.cell (cell_of (alloc_new w _ _) rfl)
      have q1 : w1.cell? ⟨w.heap.size,1,none⟩ = some (.int .i64 m):=k1.cell (cell_of (alloc_new w _ _) rfl)
      have q2 : w1.cell? ⟨w.heap.size,2,none⟩ = some (.float .f64 g):=k1.cell (cell_of (alloc_new w _ _) rfl)
      have q3 : w1.cell? ⟨w.heap.size,3,none⟩ = some (.string x):=k1.cell (cell_of (alloc_new w _ _) rfl)
      have q4 : w1.cell? ⟨w.heap.size,4,none⟩ = some (.int .i64 r):=k1.cell (cell_of (alloc_new w _ _) rfl)
      have HK : Hid (Kb 0 w w1):=(kb_alloc _ _ _).trans k1
      clear k1
      go_wp2_with fail
      go_ret
      exact ⟨rfl,HK⟩
    · have h3:=bne h3
      go_enter Tryz.func106,Tryz.ntmps106
      go_wp2_with fail
      refine (HO _).mono ?_
      rintro e w1 ⟨rfl,k1⟩
      have q0 : w1.cell? ⟨w.heap.size,0,none⟩ = some (.int .i64 k):=k1.cell (cell_of (alloc_new w _ _) rfl)
      have q1 : w1.cell? ⟨w.heap.size,1,none⟩ = some (.int .i64 m):=k1.cell (cell_of (alloc_new w _ _) rfl)
      have q2 : w1.cell? ⟨w.heap.size,2,none⟩ = some (.float .f64 g):=k1.cell (cell_of (alloc_new w _ _) rfl)
      have q3 : w1.cell? ⟨w.heap.size,3,none⟩ = some (.string x):=k1.cell (cell_of (alloc_new w _ _) rfl)
      have q4 : w1.cell? ⟨w.heap.size,4,none⟩ = some (.int .i64 r):=k1.cell (cell_of (alloc_new w _ _) rfl)
      have HK : Hid (Kb 0 w w1):=(kb_alloc _ _ _).trans k1
      clear k1
      go_wp2_with fail
      go_ret
      exact ⟨rfl,HK⟩
  rw [dc_t hv] at HO
  by_cases h5 : v.k = 5 ∨ v.k = 6 ∨ v.k = 7
  · rw [dc_t (fun q : Cok _=>h5.elim q.2.1.1 (fun h=>h.elim q.2.1.2.1 q.2.1.2.2))]
    obtain ⟨k,m,g,x,r⟩:=v
    clear hvg hv hfc
    dsimp only at *
    have HT:=fun w=>thing_t (m:=m) (g:=g) (x:=x) (r:=r) h5 w
    rcases h5 with rfl | rfl | rfl
    · skip
      go_enter Tryz.func106,Tryz.ntmps106
      go_wp2_with fail
      refine (HO _).mono ?_
      rintro e w1 ⟨rfl,k1⟩
      have q0 : w1.cell? ⟨w.heap.size,0,none⟩ = some (.int .i64 5):=k1.cell (cell_of (alloc_new w _ _) rfl)
      have q1 : w1.cell? ⟨w.heap.size,1,none⟩ = some (.int .i64 m):=k1.cell (cell_of (alloc_new w _ _) rfl)
      have q2 : w1.cell? ⟨w.heap.size,2,none⟩ = some (.float .f64 g):=k1.cell (cell_of (alloc_new w _ _) rfl)
      have q3 : w1.cell? ⟨w.heap.size,3,none⟩ = some (.string x):=k1.cell (cell_of (alloc_new w _ _) rfl)
      have q4 : w1.cell? ⟨w.heap.size,4,none⟩ = some (.int .i64 r):=k1.cell (cell_of (alloc_new w _ _) rfl)
      have HK : Hid (Kb 0 w w1):=(kb_alloc _ _ _).trans k1
      clear k1
      go_wp2_with fail
      refine (HT _).mono ?_
      rintro e w2 ⟨rfl,k2⟩
      have HK2 : Hid (Kb 0 w w2):=(show Kb 0 w w1 from HK).trans k2
      clear k2 HK
      go_wp2_with fail
      go_ret
      exact ⟨rfl,HK2⟩
    · skip
      go_enter Tryz.func106,Tryz.ntmps106
      go_wp2_with fail
      refine (HO _).mono ?_
      rintro e w1 ⟨rfl,k1⟩
      have q0 : w1.cell? ⟨w.heap.size,0,none⟩ = some (.int .i64 6):=k1.cell (cell_of (alloc_new w _ _) rfl)
      have q1 : w1.cell? ⟨w.heap.size,1,none⟩ = some (.int .i64 m):=k1.cell (cell_of (alloc_new w _ _) rfl)
      have q2 : w1.cell? ⟨w.heap.size,2,none⟩ = some (.float .f64 g):=k1.cell (cell_of (alloc_new w _ _) rfl)
      have q3 : w1.cell? ⟨w.heap.size,3,none⟩ = some (.string x):=k1.cell (cell_of (alloc_new w _ _) rfl)
      have q4 : w1.cell? ⟨w.heap.size,4,none⟩ = some (.int .i64 r):=k1.cell (cell_of (alloc_new w _ _) rfl)
      have HK : Hid (Kb 0 w w1):=(kb_alloc _ _ _).trans k1
      clear k1
      go_wp2_with fail
      refine (HT _).mono ?_
      rintro e w2 ⟨rfl,k2⟩
      have HK2 : Hid (Kb 0 w w2):=(show Kb 0 w w1 from HK).trans k2
      clear k2 HK
      go_wp2_with fail
      go_ret
      exact ⟨rfl,HK2⟩
    · skip
      go_enter Tryz.func106,Tryz.ntmps106
      go_wp2_with fail
      refine (HO _).mono ?_
      rintro e w1 ⟨rfl,k1⟩
      have q0 : w1.cell? ⟨w.heap.size,0,none⟩ = some (.int .i64 7):=k1.cell (cell_of (alloc_new w _ _) rfl)
      have q1 : w1.cell? ⟨w.heap.size,1,none⟩ = some (.int .i64 m):=k1.cell (cell_of (alloc_new w _ _) rfl)
      have q2 : w1.cell? ⟨w.heap.size,2,none⟩ = some (.float .f64 g):=k1.cell (cell_of (alloc_new w _ _) rfl)
      have q3 : w1.cell? ⟨w.heap.size,3,none⟩ = some (.string x):=k1.cell (cell_of (alloc_new w _ _) rfl)
      have q4 : w1.cell? ⟨w.heap.size,4,none⟩ = some (.int .i64 r):=k1.cell (cell_of (alloc_new w _ _) rfl)
      have HK : Hid (Kb 0 w w1):=(kb_alloc _ _ _).trans k1
      clear k1
      go_wp2_with fail
      refine (HT _).mono ?_
      rintro e w2 ⟨rfl,k2⟩
      have HK2 : Hid (Kb 0 w w2):=(show Kb 0 w w1 from HK).trans k2
      clear k2 HK
      go_wp2_with fail
      go_ret
      exact ⟨rfl,HK2⟩
  have h5a : v.k ≠ 5:=fun h=>h5 (.inl h)
  have h6a : v.k ≠ 6:=fun h=>h5 (.inr (.inl h))
  have h7a : v.k ≠ 7:=fun h=>h5 (.inr (.inr h))
  by_cases h3 : v.k = 3
  · rcases hfc with hf | hf
    · rw [dc_t (fun q : Cok _=>(by have:=q.2.2.1 h3;rw [hf] at this;cases this))]
      obtain ⟨k,m,g,x,r⟩:=v
      clear hvg hv h5 h5a h6a h7a
      dsimp only at *
      subst h3
      go_enter Tryz.func106,Tryz.ntmps106
      go_wp2_with fail
      refine (HO _).mono ?_
      rintro e w1 ⟨rfl,k1⟩
      have q0 : w1.cell? ⟨w.heap.size,0,none⟩ = some (.int .i64 3):=k1.cell (cell_of (alloc_new w _ _) rfl)
      have q1 : w1.cell? ⟨w.heap.size,1,none⟩ = some (.int .i64 m):=k1.cell (cell_of (alloc_new w _ _) rfl)
      have q2 : w1.cell? ⟨w.heap.size,2,none⟩ = some (.float .f64 g):=k1.cell (cell_of (alloc_new w _ _) rfl)
      have q3 : w1.cell? ⟨w.heap.size,3,none⟩ = some (.string x):=k1.cell (cell_of (alloc_new w _ _) rfl)
      have q4 : w1.cell? ⟨w.heap.size,4,none⟩ = some (.int .i64 r):=k1.cell (cell_of (alloc_new w _ _) rfl)
      have HK : Hid (Kb 0 w w1):=(kb_alloc _ _ _).trans k1
      clear k1
      go_wp2_with (go_at_call 140;refine (nan_t hf _).mono ?_;rintro e w2 ⟨rfl,rfl⟩)
      go_ret
      exact ⟨rfl,HK⟩
    · rw [dc_f (not_not_intro ⟨hv,⟨h5a,h6a,h7a⟩,fun _=>hf,fun h=>absurd h3 h⟩)]
      obtain ⟨k,m,g,x,r⟩:=v
      clear hvg hv h5 h5a h6a h7a
      dsimp only at *
      subst h3
      go_enter Tryz.func106,Tryz.ntmps106
      go_wp2_with fail
      refine (HO _).mono ?_
      rintro e w1 ⟨rfl,k1⟩
      have q0 : w1.cell? ⟨w.heap.size,0,none⟩ = some (.int .i64 3):=k1.cell (cell_of (alloc_new w _ _) rfl)
      have q1 : w1.cell? ⟨w.heap.size,1,none⟩ = some (.int .i64 m):=k1.cell (cell_of (alloc_new w _ _) rfl)
      have q2 : w1.cell? ⟨w.heap.size,2,none⟩ = some (.float .f64 g):=k1.cell (cell_of (alloc_new w _ _) rfl)
      have q3 : w1.cell? ⟨w.heap.size,3,none⟩ = some (.string x):=k1.cell (cell_of (alloc_new w _ _) rfl)
      have q4 : w1.cell? ⟨w.heap.size,4,none⟩ = some (.int .i64 r):=k1.cell (cell_of (alloc_new w _ _) rfl)
      have HK : Hid (Kb 0 w w1):=(kb_alloc _ _ _).trans k1
      clear k1
      go_wp2_with (go_at_call 140;refine (nan_f hf _).mono ?_;rintro e w2 ⟨rfl,rfl⟩)
      go_ret
      exact ⟨rfl,HK⟩
  rcases hvg hv h3 with hz | hz
  · rw [dc_f (not_not_intro ⟨hv,⟨h5a,h6a,h7a⟩,fun h=>absurd h h3,fun _=>hz⟩)]
    obtain ⟨k,m,g,x,r⟩:=v
    clear hvg hv h5 hfc
    dsimp only at *
    subst hz
    have HT:=fun w=>thing_f (m:=m) (g:=0) (x:=x) (r:=r) ⟨h5a,h6a,h7a⟩ w
    have h3:=bne h3
    have h5:=bne h5a
    have h6:=bne h6a
    have h7:=bne h7a
    have hq:=quo_run (x:=0) (r:=9218868437227405312) (by decide)
    have hgt : FloatKind.f64.format.order 9218868437227405312 0 = some .gt:=by decide
    have hz0 : FloatKind.f64.format.order 0 0 = some .eq:=by decide
    go_enter Tryz.func106,Tryz.ntmps106
    go_wp2_with fail
    refine (HO _).mono ?_
    rintro e w1 ⟨rfl,k1⟩
    have q0 : w1.cell? ⟨w.heap.size,0,none⟩ = some (.int .i64 k):=k1.cell (cell_of (alloc_new w _ _) rfl)
    have q1 : w1.cell? ⟨w.heap.size,1,none⟩ = some (.int .i64 m):=k1.cell (cell_of (alloc_new w _ _) rfl)
    have q2 : w1.cell? ⟨w.heap.size,2,none⟩ = some (.float .f64 0):=k1.cell (cell_of (alloc_new w _ _) rfl)
    have q3 : w1.cell? ⟨w.heap.size,3,none⟩ = some (.string x):=k1.cell (cell_of (alloc_new w _ _) rfl)
    have q4 : w1.cell? ⟨w.heap.size,4,none⟩ = some (.int .i64 r):=k1.cell (cell_of (alloc_new w _ _) rfl)
    have HK : Hid (Kb 0 w w1):=(kb_alloc _ _ _).trans k1
    clear k1
    go_wp2_with fail
    refine (HT _).mono ?_
    rintro e w2 ⟨rfl,k2⟩
    have p2 : w2.cell? ⟨w.heap.size,2,none⟩ = some (.float .f64 0):=k2.cell q2
    have HK2 : Hid (Kb 0 w w2):=(show Kb 0 w w1 from HK).trans k2
    clear k2 HK q0 q1 q2 q3 q4
    go_wp2_with (go_at_call 142;refine (sign_f _).mono ?_;rintro e w3 ⟨rfl,rfl⟩)
    go_ret
    exact ⟨rfl,HK2⟩
  · rw [dc_t (fun q : Cok _=>(by have:=q.2.2.2 h3;rw [hz] at this;cases this))]
    obtain ⟨k,m,g,x,r⟩:=v
    clear hvg hv h5 hfc
    dsimp only at *
    subst hz
    have HT:=fun w=>thing_f (m:=m) (g:=9223372036854775808) (x:=x) (r:=r) ⟨h5a,h6a,h7a⟩ w
    have h3:=bne h3
    have h5:=bne h5a
    have h6:=bne h6a
    have h7:=bne h7a
    have hq:=quo_run (x:=9223372036854775808) (r:=18442240474082181120) (by decide)
    have hgt : FloatKind.f64.format.order 18442240474082181120 0 = some .lt:=by decide
    have hz0 : FloatKind.f64.format.order 9223372036854775808 0 = some .eq:=by decide
    go_enter Tryz.func106,Tryz.ntmps106
    go_wp2_with fail
    refine (HO _).mono ?_
    rintro e w1 ⟨rfl,k1⟩
    have q0 : w1.cell? ⟨w.heap.size,0,none⟩ = some (.int .i64 k):=k1.cell (cell_of (alloc_new w _ _) rfl)
    have q1 : w1.cell? ⟨w.heap.size,1,none⟩ = some (.int .i64 m):=k1.cell (cell_of (alloc_new w _ _) rfl)
    have q2 : w1.cell? ⟨w.heap.size,2,none⟩ = some (.float .f64 9223372036854775808):=k1.cell (cell_of (alloc_new w _ _) rfl)
    have q3 : w1.cell? ⟨w.heap.size,3,none⟩ = some (.string x):=k1.cell (cell_of (alloc_new w _ _) rfl)
    have q4 : w1.cell? ⟨w.heap.size,4,none⟩ = some (.int .i64 r):=k1.cell (cell_of (alloc_new w _ _) rfl)
    have HK : Hid (Kb 0 w w1):=(kb_alloc _ _ _).trans k1
    clear k1
    go_wp2_with fail
    refine (HT _).mono ?_
    rintro e w2 ⟨rfl,k2⟩
    have p2 : w2.cell? ⟨w.heap.size,2,none⟩ = some (.float .f64 9223372036854775808):=k2.cell q2
    have HK2 : Hid (Kb 0 w w2):=(show Kb 0 w w1 from HK).trans k2
    clear k2 HK q0 q1 q2 q3 q4
    go_wp2_with (go_at_call 142;refine (sign_t _).mono ?_;rintro e w3 ⟨rfl,rfl⟩)
    go_ret
    exact ⟨rfl,HK2⟩
theorem sz_emp {x : ByteArray} : x = ⟨#[]⟩ ↔ x.size = 0:=by
  constructor
  · rintro rfl;rfl
  · intro h
    apply ByteArray.ext
    exact Array.eq_empty_of_size_eq_zero h
theorem sp_nam {d : Pd} {b : Addr} {i : Nat} {pu pc pn : Option Addr} {cu cc cn cm : Nat} (w : World) (hi : i < d.d) (hd : d.d ≤ 1048576) (hn : d.n ≤ 1048576) (hcel : CelM w (b.add (i * 4)) (d.D i)) (hg : 0 ≤ d.g ∧ d.g ≤ 250) :
    Calls Tryz.prog 97 #[.agg #[.string d.x,.int .i64 d.l,.int .i64 d.m,.bool d.r,.int .i64 d.g,.slice pu d.u cu,.slice pc d.c cc,.slice pn d.n cn,.slice (some b) d.d cm],.int .i64 (i : Int)] w fun e w'=>e = .returned (.bool (dc (Nok d i))) ∧ Kb 0 w w':=by
  obtain ⟨d0,d1,d2,d3⟩:=hcel.keep (Nat.zero_le _) (kb_alloc 0 w (.cells #[.string d.x,.int .i64 d.l,.int .i64 d.m,.bool d.r,.int .i64 d.g,.slice pu d.u cu,.slice pc d.c cc,.slice pn d.n cn,.slice (some b) d.d cm] 50))
  unfold Nok
  generalize d.D i = a at *
  obtain ⟨x,g,f,t⟩:=a
  obtain ⟨dx,l,m,r,G,u,U,c,C,n,N,dd,D⟩:=d
  dsimp only at *
  have hiI : (i : Int) < (dd : Int):=by omega
  have hdI : (dd : Int) ≤ 1048576:=by omega
  have hnI : (n : Int) ≤ 1048576:=by omega
  clear hi hd hn hcel
  by_cases h0 : i < 500
  rotate_left
  · have g0 : ¬ (i : Int) < 500:=by omega
    rw [dc_f (fun q=>h0 (q.1))]
    go_enter Tryz.func97,Tryz.ntmps97
    go_wp2_with ((go_at_call 99;first | refine (sp_in_t (by omega) _).mono ?_ | refine (sp_in_f (by omega) _).mono ?_);rintro e w1 ⟨rfl,rfl⟩)
    go_ret
    exact ⟨by first | rfl | simp [h5],kb_alloc2 _ _ _ _⟩
  have g0 : (i : Int) < 500:=by omega
  by_cases h1 : 1 ≤ x.size ∧ x.size ≤ 40
  rotate_left
  · have g1 : ¬ ((1 : Int) ≤ (x.size : Int) ∧ (x.size : Int) ≤ 40):=by omega
    rw [dc_f (fun q=>h1 (q.2.1))]
    go_enter Tryz.func97,Tryz.ntmps97
    go_wp2_with ((go_at_call 99;first | refine (sp_in_t (by omega) _).mono ?_ | refine (sp_in_f (by omega) _).mono ?_);rintro e w1 ⟨rfl,rfl⟩)
    go_ret
    exact ⟨by first | rfl | simp [h5],kb_alloc2 _ _ _ _⟩
  have g1 : (1 : Int) ≤ (x.size : Int) ∧ (x.size : Int) ≤ 40:=by omega
  by_cases h2 : 0 ≤ g ∧ g ≤ G - 1
  rotate_left
  · rw [dc_f (fun q=>h2 (q.2.2.1))]
    go_enter Tryz.func97,Tryz.ntmps97
    go_wp2_with ((go_at_call 99;first | refine (sp_in_t (by omega) _).mono ?_ | refine (sp_in_f (by omega) _).mono ?_);rintro e w1 ⟨rfl,rfl⟩)
    go_ret
    exact ⟨by first | rfl | simp [h5],kb_alloc2 _ _ _ _⟩
  skip
  by_cases h3 : 0 ≤ f
  rotate_left
  · rw [dc_f (fun q=>h3 (q.2.2.2.1))]
    go_enter Tryz.func97,Tryz.ntmps97
    go_wp2_with ((go_at_call 99;first | refine (sp_in_t (by omega) _).mono ?_ | refine (sp_in_f (by omega) _).mono ?_);rintro e w1 ⟨rfl,rfl⟩)
    go_ret
    exact ⟨by first | rfl | simp [h5],kb_alloc2 _ _ _ _⟩
  skip
  by_cases h4 : f ≤ t
  rotate_left
  · rw [dc_f (fun q=>h4 (q.2.2.2.2.1))]
    go_enter Tryz.func97,Tryz.ntmps97
    go_wp2_with ((go_at_call 99;first | refine (sp_in_t (by omega) _).mono ?_ | refine (sp_in_f (by omega) _).mono ?_);rintro e w1 ⟨rfl,rfl⟩)
    go_ret
    exact ⟨by first | rfl | simp [h5],kb_alloc2 _ _ _ _⟩
  skip
  by_cases h5 : t ≤ (n : Int)
  rotate_left
  · rw [dc_f (fun q=>h5 (q.2.2.2.2.2))]
    go_enter Tryz.func97,Tryz.ntmps97
    go_wp2_with ((go_at_call 99;first | refine (sp_in_t (by omega) _).mono ?_ | refine (sp_in_f (by omega) _).mono ?_);rintro e w1 ⟨rfl,rfl⟩)
    go_ret
    exact ⟨by first | rfl | simp [h5],kb_alloc2 _ _ _ _⟩
  skip
  rw [dc_t ⟨h0,h1,h2,h3,h4,h5⟩]
  go_enter Tryz.func97,Tryz.ntmps97
  go_wp2_with ((go_at_call 99;first | refine (sp_in_t (by omega) _).mono ?_ | refine (sp_in_f (by omega) _).mono ?_);rintro e w1 ⟨rfl,rfl⟩)
  go_ret
  exact ⟨by first | rfl | simp [h5],kb_alloc2 _ _ _ _⟩
def Lx (P : Nat → Nat → Prop) (L : Nat → Nat) (nf f n : Nat) : Prop:=f < nf ∧ n < L f ∧ ¬ P f n ∧ (∀ i,i < n → P f i) ∧ ∀ g,g < f → ∀ i,i < L g → P g i
def La (P : Nat → Nat → Prop) (L : Nat → Nat) (nf : Nat) : Prop:=∀ f,f < nf → ∀ i,i < L f → P f i
theorem Lx.uniq {P : Nat → Nat → Prop} {L : Nat → Nat} {nf f n g m : Nat} (h : Lx P L nf f n) (k : Lx P L nf g m) : f = g ∧ n = m:=by
  obtain ⟨h1,h2,h3,h4,h5⟩:=h
  obtain ⟨k1,k2,k3,k4,k5⟩:=k
  have hf : f = g:=by
    rcases Nat.lt_trichotomy f g with q | q | q
    · exact absurd (k5 f q n h2) h3
    · exact q
    · exact absurd (h5 g q m k2) k3
  subst hf
  refine ⟨rfl,?_⟩
  rcases Nat.lt_trichotomy n m with q | q | q
  · exact absurd (k4 n q) h3
  · exact q
  · exact absurd (h4 m q) k3
structure Bd (np : Nat) (F : Nat → Pd) : Prop where
  hnp : np ≤ 1048576
  hsm : sm (fun i=>(F i).n) np ≤ 1048576
  hu : ∀ p,p < np → (F p).u ≤ 1048576
  hc : ∀ p,p < np → (F p).c ≤ 1048576
  hn : ∀ p,p < np → (F p).n ≤ 1048576
  hd : ∀ p,p < np → (F p).d ≤ 1048576
  hg : ∀ p,p < np → -9223372036854775808 ≤ (F p).g
  hC : ∀ p,p < np → ∀ i,i < (F p).c → (((F p).C i).x.size : Int) ≤ 1048576 ∧ ((F p).C i).g < 18446744073709551616
def Szu (np : Nat) (F : Nat → Pd) : Prop:=0 < np ∧ np ≤ 200 ∧ sm (fun i=>(F i).n) np ≤ 6000
def MB (F : Nat → Pd) (p i : Nat) (k : Int) : Prop:=∃ q j,(q < p ∨ (q = p ∧ j < i)) ∧ j < (F q).n ∧ ((F q).N j).o = 11 ∧ ((F q).N j).b = k
def P5 (np : Nat) (F : Nat → Pd) (p i : Nat) : Prop:=(F p).n ≠ 0 ∧ Iok np (F p) i
def P6 (F : Nat → Pd) (p i : Nat) : Prop:=((F p).N i).o = 11 → (p : Int) < ((F p).N i).b ∧ ¬ MB F p i ((F p).N i).b ∧ Uok (F p) (F ((F p).N i).b.toNat)
def P7 (np : Nat) (F : Nat → Pd) (p : Nat) : Prop:=p = 0 ∨ MB F np 0 (p : Int)
def L5 (F : Nat → Pd) (p : Nat) : Nat:=if (F p).n = 0 then 1 else (F p).n
def PQ (F : Nat → Pd) (np : Nat) (c p i : Nat) : Prop :=
  match c with
  | 2=>Hd p (F p)
  | 3=>Cok ((F p).C i)
  | 4=>Nok (F p) i
  | 5=>P5 np F p i
  | 6=>P6 F p i
  | _=>P7 np F p
def LQ (F : Nat → Pd) (c p : Nat) : Nat :=
  match c with
  | 2=>1
  | 3=>(F p).c
  | 4=>(F p).d
  | 5=>L5 F p
  | 6=>(F p).n
  | _=>1
def Ans (m np : Nat) (F : Nat → Pd) (c f n : Nat) : Prop :=
  (c = 1 ∧ f = 0 ∧ n = 0 ∧ ¬ Szu np F) ∨ (Szu np F ∧ 2 ≤ c ∧ c ≤ m ∧ Lx (PQ F np c) (LQ F c) np f n ∧ ∀ c',2 ≤ c' → c' < c → La (PQ F np c') (LQ F c') np) ∨ (Szu np F ∧ c = 0 ∧ f = 0 ∧ n = 0 ∧ ∀ c',2 ≤ c' → c' ≤ m → La (PQ F np c') (LQ F c') np)
theorem lx_la {P : Nat → Nat → Prop} {L : Nat → Nat} {nf f n : Nat} (h : Lx P L nf f n) (k : La P L nf) : False:=h.2.2.1 (k f h.1 n h.2.1)
theorem Ans.uniq {m np : Nat} {F : Nat → Pd} {c f n c' f' n' : Nat} (h : Ans m np F c f n) (k : Ans m np F c' f' n') : c = c' ∧ f = f' ∧ n = n':=by
  rcases h with ⟨h1,h2,h3,h4⟩ | ⟨h1,h2,h3,h4,h5⟩ | ⟨h1,h2,h3,h4,h5⟩ <;> rcases k with ⟨k1,k2,k3,k4⟩ | ⟨k1,k2,k3,k4,k5⟩ | ⟨k1,k2,k3,k4,k5⟩
  · exact ⟨by omega,by omega,by omega⟩
  · exact absurd k1 h4
  · exact absurd k1 h4
  · exact absurd h1 k4
  · have e : c = c' := by
      rcases Nat.lt_trichotomy c c' with q | q | q
      · exact (lx_la h4 (k5 c h2 q)).elim
      · exact q
      · exact (lx_la k4 (h5 c' k2 q)).elim
    subst e
    exact ⟨rfl,h4.uniq k4⟩
  · exact (lx_la h4 (k5 c h2 h3)).elim
  · exact absurd h1 k4
  · exact (lx_la k4 (h5 c' k2 k3)).elim
  · exact ⟨by omega,by omega,by omega⟩
theorem eq_code {va vb : Value} {nf : Nat} {F : Nat → Pd} (w : World) (ha : RowP 0 w va nf F) (hv : RowP 0 w vb nf F) (hb : Bd nf F) : Calls Tryz.prog 10 #[.agg #[va],.agg #[vb]] w fun e w'=>e = .returned (.bool true) ∧ Kb 0 w w' :=
  eq_code0 w (fun W k=>eq_pros W (ha.keep k) (hv.keep k) hb.hnp (fun i hi=>⟨hb.hu i hi,hb.hc i hi,hb.hn i hi,hb.hd i hi,fun j hj=>(hb.hC i hi j hj).2⟩))
end Go.Proofs.YtnmeemjoodoalaaGreatDoor.Fo
