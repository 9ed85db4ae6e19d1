import Derived.Test.YtnmeemjoodoalaaGreatDoorMCjb
set_option maxHeartbeats 8000000
namespace Go.Proofs.YtnmeemjoodoalaaGreatDoor.Fo
open Go.ChangeShapes Go.WideShapes Go.ChangeAt Go.RowKit
set_option linter.unusedVariables false
set_option maxRecDepth 100000
def Fb (P : Nat → Prop) (n : Nat) (r : Int) : Prop:=(r = -1 ∧ ∀ j,j < n → P j) ∨ ∃ j : Nat,r = (j : Int) ∧ j < n ∧ ¬ P j ∧ ∀ i,i < j → P i
theorem vok_g {v : Vv} (h : vok v) (h3 : v.k ≠ 3) (hg : v.g < 18446744073709551616) : v.g = 0 ∨ v.g = 9223372036854775808:=by
  have hz : Go.Proofs.YtnmeemjoodoalaaGreatDoor.fz v.g:=by
    unfold vok zr at h
    rcases h with h | h | h | h | h | h | h | h | h
    all_goals first
      | exact absurd h.1 h3
      | (have q:=h.2.1.2.1;simpa using q)
  rcases Flt.zero_cases v.g hg with q | ⟨_,_,q⟩ | ⟨_,q⟩
  · rcases Flt.order_cases v.g 0 with ⟨_,e⟩ | ⟨e,_⟩ | ⟨e,_⟩
    · unfold Go.Proofs.YtnmeemjoodoalaaGreatDoor.fz at hz;rw [e] at hz;cases hz
    · rw [q] at e;cases e
    · rw [q] at e;cases e
  · exact q
  · unfold Go.Proofs.YtnmeemjoodoalaaGreatDoor.fz at hz
    rcases q with q | q <;> (rw [q] at hz;cases hz)
theorem flt_c (g : Nat) : FloatKind.f64.format.order g g = none ∨ FloatKind.f64.format.order g g = some .eq:=by
  rcases Flt.order_cases g g with ⟨e,_⟩ | ⟨e,_⟩ | ⟨e,_⟩
  · exact .inl e
  · exact .inr e
  · exact .inr e
theorem nan_t {g : Nat} (h : FloatKind.f64.format.order g g = none) (w : World) : Calls Tryz.prog 140 #[.float .f64 g] w fun e w'=>e = .returned (.bool true) ∧ w' = w:=by
  go_enter Tryz.func140,Tryz.ntmps140
  go_wp2
  go_ret
  exact ⟨rfl,rfl⟩
theorem nan_f {g : Nat} (h : FloatKind.f64.format.order g g = some .eq) (w : World) : Calls Tryz.prog 140 #[.float .f64 g] w fun e w'=>e = .returned (.bool false) ∧ w' = w:=by
  go_enter Tryz.func140,Tryz.ntmps140
  go_wp2
  go_ret
  exact ⟨rfl,rfl⟩
theorem bits_ext (x : Nat) (w : World) : (callFunc 153 #[.float .f64 x]).run Tryz.prog w = .ok (.value (.int .u64 x)) w:=by
  rw [run_callFunc_extern (e:=Extern.MathFloatBits.float64bits) Tryz.func153 (by kernel_rfl) (by kernel_rfl) (by kernel_rfl) (by kernel_rfl)]
  rfl
theorem sign_f (w : World) : Calls Tryz.prog 142 #[.float .f64 0] w fun e w'=>e = .returned (.bool false) ∧ w' = w:=by
  have hb:=bits_ext 0
  go_enter Tryz.func142,Tryz.ntmps142
  go_wp2_with fail
  go_ret
  exact ⟨rfl,rfl⟩
theorem sign_t (w : World) : Calls Tryz.prog 142 #[.float .f64 9223372036854775808] w fun e w'=>e = .returned (.bool true) ∧ w' = w:=by
  have hb:=bits_ext 9223372036854775808
  have hc : IntKind.i64.wrap 9223372036854775808 = -9223372036854775808:=by decide
  go_enter Tryz.func142,Tryz.ntmps142
  go_wp2_with fail
  go_ret
  exact ⟨rfl,rfl⟩
theorem thing_t {k m : Int} {g : Nat} {x : ByteArray} {r : Int} (h : k = 5 ∨ k = 6 ∨ k = 7) (w : World) : Calls Tryz.prog 141 #[.agg #[.int .i64 k,.int .i64 m,.float .f64 g,.string x,.int .i64 r]] w fun e w'=>e = .returned (.bool true) ∧ Kb 0 w w':=by
  rcases h with rfl | rfl | rfl
  all_goals
    go_enter Tryz.func141,Tryz.ntmps141
    go_wp2_with fail
    go_ret
    exact ⟨rfl,kb_alloc _ _ _⟩
theorem thing_f {k m : Int} {g : Nat} {x : ByteArray} {r : Int} (h : k ≠ 5 ∧ k ≠ 6 ∧ k ≠ 7) (w : World) : Calls Tryz.prog 141 #[.agg #[.int .i64 k,.int .i64 m,.float .f64 g,.string x,.int .i64 r]] w fun e w'=>e = .returned (.bool false) ∧ Kb 0 w w':=by
  have h5:=bne h.1
  have h6:=bne h.2.1
  have h7:=bne h.2.2
  go_enter Tryz.func141,Tryz.ntmps141
  go_wp2_with fail
  go_ret
  exact ⟨rfl,kb_alloc _ _ _⟩
theorem sp_const (v : Vv) (hx : (v.x.size : Int) ≤ 1048576) (hg : v.g < 18446744073709551616) (w : World) : Calls Tryz.prog 96 #[valv v] w fun e w'=>e = .returned (.bool (dc (Cok v))) ∧ Kb 0 w w':=by
  have HO : ∀ W,Calls Tryz.prog 132 #[vv v] W fun e w'=>e = .returned (.bool (dc (vok v))) ∧ Kb 0 W w':=fun W=>by
    refine (sp_ok v hx W).mono ?_
    rintro e w' ⟨rfl,h⟩
    exact ⟨rfl,Kb.of_grown h h.2.2 0⟩
  have hvg:=fun h h3=>vok_g (v:=v) h h3 hg
  have hfc:=flt_c v.g
  unfold valv
  unfold vv at HO
  by_cases hv : vok v
  rotate_left
  · rw [dc_f (fun q=>hv q.1)]
    rw [dc_f hv] at HO
    obtain ⟨k,m,g,x,r⟩:=v
    clear hvg hv
    dsimp only at *
    by_cases h3 : k = 3
    · subst h3
      go_enter Tryz.func96,Tryz.ntmps96
      go_wp2_with fail
      refine (HO _).mono ?_
      rintro e w1 ⟨rfl,k1⟩
      have q0 : w1.cell? ⟨w.heap.size,0,none⟩ = some (.int .i64 3):=k1.cell (cell_of (alloc_new w _ _) rfl)
      have q1 : w1.cell? ⟨w.heap.size,1,none⟩ = some (.int .i64 m):=k1.cell (cell_of (alloc_new w _ _) rfl)
      have q2 : w1.cell? ⟨w.heap.size,2,none⟩ = some (.float .f64 g):=k1.cell (cell_of (alloc_new w _ _) rfl)
      have q3 : w1.cell? ⟨w.heap.size,3,none⟩ = some (.string x):=k1.cell (cell_of (alloc_new w _ _) rfl)
      have q4 : w1.cell? ⟨w.heap.size,4,none⟩ = some (.int .i64 r):=k1.cell (cell_of (alloc_new w _ _) rfl)
      have HK : Hid (Kb 0 w w1):=(kb_alloc _ _ _).trans k1
      clear k1
      go_wp2_with fail
      go_ret
      exact ⟨rfl,HK⟩
    · have h3:=bne h3
      go_enter Tryz.func96,Tryz.ntmps96
      go_wp2_with fail
      refine (HO _).mono ?_
      rintro e w1 ⟨rfl,k1⟩
      have q0 : w1.cell? ⟨w.heap.size,0,none⟩ = some (.int .i64 k):=k1.cell (cell_of (alloc_new w _ _) rfl)
      have q1 : w1.cell? ⟨w.heap.size,1,none⟩ = some (.int .i64 m):=k1.cell (cell_of (alloc_new w _ _) rfl)
      have q2 : w1.cell? ⟨w.heap.size,2,none⟩ = some (.float .f64 g):=k1.cell (cell_of (alloc_new w _ _) rfl)
      have q3 : w1.cell? ⟨w.heap.size,3,none⟩ = some (.string x):=k1.cell (cell_of (alloc_new w _ _) rfl)
      have q4 : w1.cell? ⟨w.heap.size,4,none⟩ = some (.int .i64 r):=k1.cell (cell_of (alloc_new w _ _) rfl)
      have HK : Hid (Kb 0 w w1):=(kb_alloc _ _ _).trans k1
      clear k1
      go_wp2_with fail
      go_ret
      exact ⟨rfl,HK⟩
  rw [dc_t hv] at HO
  by_cases h5 : v.k = 5 ∨ v.k = 6 ∨ v.k = 7
  · rw [dc_f (fun q=>h5.elim q.2.1.1 (fun h=>h.elim q.2.1.2.1 q.2.1.2.2))]
    obtain ⟨k,m,g,x,r⟩:=v
    clear hvg hv hfc
    dsimp only at *
    have HT:=fun w=>thing_t (m:=m) (g:=g) (x:=x) (r:=r) h5 w
    rcases h5 with rfl | rfl | rfl
    · skip
      go_enter Tryz.func96,Tryz.ntmps96
      go_wp2_with fail
      refine (HO _).mono ?_
      rintro e w1 ⟨rfl,k1⟩
      have q0 : w1.cell? ⟨w.heap.size,0,none⟩ = some (.int .i64 5):=k1.cell (cell_of (alloc_new w _ _) rfl)
      have q1 : w1.cell? ⟨w.heap.size,1,none⟩ = some (.int .i64 m):=k1.cell (cell_of (alloc_new w _ _) rfl)
      have q2 : w1.cell? ⟨w.heap.size,2,none⟩ = some (.float .f64 g):=k1.cell (cell_of (alloc_new w _ _) rfl)
      have q3 : w1.cell? ⟨w.heap.size,3,none⟩ = some (.string x):=k1.cell (cell_of (alloc_new w _ _) rfl)
      have q4 : w1.cell? ⟨w.heap.size,4,none⟩ = some (.int .i64 r):=k1.cell (cell_of (alloc_new w _ _) rfl)
      have HK : Hid (Kb 0 w w1):=(kb_alloc _ _ _).trans k1
      clear k1
      go_wp2_with fail
      go_ret
      exact ⟨rfl,HK⟩
    · skip
      go_enter Tryz.func96,Tryz.ntmps96
      go_wp2_with fail
      refine (HO _).mono ?_
      rintro e w1 ⟨rfl,k1⟩
      have q0 : w1.cell? ⟨w.heap.size,0,none⟩ = some (.int .i64 6):=k1.cell (cell_of (alloc_new w _ _) rfl)
      have q1 : w1.cell? ⟨w.heap.size,1,none⟩ = some (.int .i64 m):=k1.cell (cell_of (alloc_new w _ _) rfl)
      have q2 : w1.cell? ⟨w.heap.size,2,none⟩ = some (.float .f64 g):=k1.cell (cell_of (alloc_new w _ _) rfl)
      have q3 : w1.cell? ⟨w.heap.size,3,none⟩ = some (.string x):=k1.cell (cell_of (alloc_new w _ _) rfl)
      have q4 : w1.cell? ⟨w.heap.size,4,none⟩ = some (.int .i64 r):=k1.cell (cell_of (alloc_new w _ _) rfl)
      have HK : Hid (Kb 0 w w1):=(kb_alloc _ _ _).trans k1
      clear k1
      go_wp2_with fail
      go_ret
      exact ⟨rfl,HK⟩
    · skip
      go_enter Tryz.func96,Tryz.ntmps96
      go_wp2_with fail
      refine (HO _).mono ?_
      rintro e w1 ⟨rfl,k1⟩
      have q0 : w1.cell? ⟨w.heap.size,0,none⟩ = some (.int .i64 7):=k1.cell (cell_of (alloc_new w _ _) rfl)
      have q1 : w1.cell? ⟨w.heap.size,1,none⟩ = some (.int .i64 m):=k1.cell (cell_of (alloc_new w _ _) rfl)
      have q2 : w1.cell? ⟨w.heap.size,2,none⟩ = some (.float .f64 g):=k1.cell (cell_of (alloc_new w _ _) rfl)
      have q3 : w1.cell? ⟨w.heap.size,3,none⟩ = some (.string x):=k1.cell (cell_of (alloc_new w _ _) rfl)
      have q4 : w1.cell? ⟨w.heap.size,4,none⟩ = some (.int .i64 r):=k1.cell (cell_of (alloc_new w _ _) rfl)
      have HK : Hid (Kb 0 w w1):=(kb_alloc _ _ _).trans k1
      clear k1
      go_wp2_with fail
      go_ret
      exact ⟨rfl,HK⟩
  have h5a : v.k ≠ 5:=fun h=>h5 (.inl h)
  have h6a : v.k ≠ 6:=fun h=>h5 (.inr (.inl h))
  have h7a : v.k ≠ 7:=fun h=>h5 (.inr (.inr h))
  by_cases h3 : v.k = 3
  · rcases hfc with hf | hf
    · rw [dc_f (fun q=>(by have:=q.2.2.1 h3;rw [hf] at this;cases this))]
      obtain ⟨k,m,g,x,r⟩:=v
      clear hvg hv h5 h5a h6a h7a
      dsimp only at *
      subst h3
      go_enter Tryz.func96,Tryz.ntmps96
      go_wp2_with fail
      refine (HO _).mono ?_
      rintro e w1 ⟨rfl,k1⟩
      have q0 : w1.cell? ⟨w.heap.size,0,none⟩ = some (.int .i64 3):=k1.cell (cell_of (alloc_new w _ _) rfl)
      have q1 : w1.cell? ⟨w.heap.size,1,none⟩ = some (.int .i64 m):=k1.cell (cell_of (alloc_new w _ _) rfl)
      have q2 : w1.cell? ⟨w.heap.size,2,none⟩ = some (.float .f64 g):=k1.cell (cell_of (alloc_new w _ _) rfl)
      have q3 : w1.cell? ⟨w.heap.size,3,none⟩ = some (.string x):=k1.cell (cell_of (alloc_new w _ _) rfl)
      have q4 : w1.cell? ⟨w.heap.size,4,none⟩ = some (.int .i64 r):=k1.cell (cell_of (alloc_new w _ _) rfl)
      have HK : Hid (Kb 0 w w1):=(kb_alloc _ _ _).trans k1
      clear k1
      go_wp2_with fail
      go_ret
      exact ⟨rfl,HK⟩
    · rw [dc_t ⟨hv,⟨h5a,h6a,h7a⟩,fun _=>hf,fun h=>absurd h3 h⟩]
      obtain ⟨k,m,g,x,r⟩:=v
      clear hvg hv h5 h5a h6a h7a
      dsimp only at *
      subst h3
      go_enter Tryz.func96,Tryz.ntmps96
      go_wp2_with fail
      refine (HO _).mono ?_
      rintro e w1 ⟨rfl,k1⟩
      have q0 : w1.cell? ⟨w.heap.size,0,none⟩ = some (.int .i64 3):=k1.cell (cell_of (alloc_new w _ _) rfl)
      have q1 : w1.cell? ⟨w.heap.size,1,none⟩ = some (.int .i64 m):=k1.cell (cell_of (alloc_new w _ _) rfl)
      have q2 : w1.cell? ⟨w.heap.size,2,none⟩ = some (.float .f64 g):=k1.cell (cell_of (alloc_new w _ _) rfl)
      have q3 : w1.cell? ⟨w.heap.size,3,none⟩ = some (.string x):=k1.cell (cell_of (alloc_new w _ _) rfl)
      have q4 : w1.cell? ⟨w.heap.size,4,none⟩ = some (.int .i64 r):=k1.cell (cell_of (alloc_new w _ _) rfl)
      have HK : Hid (Kb 0 w w1):=(kb_alloc _ _ _).trans k1
      clear k1
      go_wp2_with fail
      go_ret
      exact ⟨rfl,HK⟩
  rcases hvg hv h3 with hz | hz
  · rw [dc_t ⟨hv,⟨h5a,h6a,h7a⟩,fun h=>absurd h h3,fun _=>hz⟩]
    obtain ⟨k,m,g,x,r⟩:=v
    clear hvg hv h5 hfc
    dsimp only at *
    subst hz
    have HT:=fun w=>thing_f (m:=m) (g:=0) (x:=x) (r:=r) ⟨h5a,h6a,h7a⟩ w
    have h3:=bne h3
    have h5:=bne h5a
    have h6:=bne h6a
    have h7:=bne h7a
    have hq:=quo_run (x:=0) (r:=9218868437227405312) (by decide)
    have hgt : FloatKind.f64.format.order 9218868437227405312 0 = some .gt:=by decide
    have hz0 : FloatKind.f64.format.order 0 0 = some .eq:=by decide
    go_enter Tryz.func96,Tryz.ntmps96
    go_wp2_with fail
    refine (HO _).mono ?_
    rintro e w1 ⟨rfl,k1⟩
    have q0 : w1.cell? ⟨w.heap.size,0,none⟩ = some (.int .i64 k):=k1.cell (cell_of (alloc_new w _ _) rfl)
    have q1 : w1.cell? ⟨w.heap.size,1,none⟩ = some (.int .i64 m):=k1.cell (cell_of (alloc_new w _ _) rfl)
    have q2 : w1.cell? ⟨w.heap.size,2,none⟩ = some (.float .f64 0):=k1.cell (cell_of (alloc_new w _ _) rfl)
    have q3 : w1.cell? ⟨w.heap.size,3,none⟩ = some (.string x):=k1.cell (cell_of (alloc_new w _ _) rfl)
    have q4 : w1.cell? ⟨w.heap.size,4,none⟩ = some (.int .i64 r):=k1.cell (cell_of (alloc_new w _ _) rfl)
    have HK : Hid (Kb 0 w w1):=(kb_alloc _ _ _).trans k1
    clear k1
    go_wp2
    go_ret
    exact ⟨rfl,HK⟩
  · rw [dc_f (fun q=>(by have:=q.2.2.2 h3;rw [hz] at this;cases this))]
    obtain ⟨k,m,g,x,r⟩:=v
    clear hvg hv h5 hfc
    dsimp only at *
    subst hz
    have HT:=fun w=>thing_f (m:=m) (g:=9223372036854775808) (x:=x) (r:=r) ⟨h5a,h6a,h7a⟩ w
    have h3:=bne h3
    have h5:=bne h5a
    have h6:=bne h6a
    have h7:=bne h7a
    have hq:=quo_run (x:=9223372036854775808) (r:=18442240474082181120) (by decide)
    have hgt : FloatKind.f64.format.order 18442240474082181120 0 = some .lt:=by decide
    have hz0 : FloatKind.f64.format.order 9223372036854775808 0 = some .eq:=by decide
    go_enter Tryz.func96,Tryz.ntmps96
    go_wp2_with fail
    refine (HO _).mono ?_
    rintro e w1 ⟨rfl,k1⟩
    have q0 : w1.cell? ⟨w.heap.size,0,none⟩ = some (.int .i64 k):=k1.cell (cell_of (alloc_new w _ _) rfl)
    have q1 : w1.cell? ⟨w.heap.size,1,none⟩ = some (.int .i64 m):=k1.cell (cell_of (alloc_new w _ _) rfl)
    have q2 : w1.cell? ⟨w.heap.size,2,none⟩ = some (.float .f64 9223372036854775808):=k1.cell (cell_of (alloc_new w _ _) rfl)
    have q3 : w1.cell? ⟨w.heap.size,3,none⟩ = some (.string x):=k1.cell (cell_of (alloc_new w _ _) rfl)
    have q4 : w1.cell? ⟨w.heap.size,4,none⟩ = some (.int .i64 r):=k1.cell (cell_of (alloc_new w _ _) rfl)
    have HK : Hid (Kb 0 w w1):=(kb_alloc _ _ _).trans k1
    clear k1
    go_wp2
    go_ret
    exact ⟨rfl,HK⟩
theorem im_nocon (v : Vv) (hx : (v.x.size : Int) ≤ 1048576) (hg : v.g < 18446744073709551616) (w : World) : Calls Tryz.prog 106 #[valv v] w fun e w'=>e = .returned (.bool (dc (¬ Cok v))) ∧ Kb 0 w w':=by
  have HO : ∀ W,Calls Tryz.prog 139 #[vv v] W fun e w'=>e = .returned (.bool (dc (vok v))) ∧ Kb 0 W w':=fun W=>by
    refine (im_ok v hx W).mono ?_
    rintro e w' ⟨rfl,h⟩
    exact ⟨rfl,Kb.of_grown h h.2.2 0⟩
  have hvg:=fun h h3=>vok_g (v:=v) h h3 hg
  have hfc:=flt_c v.g
  unfold valv
  unfold vv at HO
  by_cases hv : vok v
  rotate_left
  · rw [dc_t (fun q : Cok _=>hv q.1)]
    rw [dc_f hv] at HO
    obtain ⟨k,m,g,x,r⟩:=v
    clear hvg hv
    dsimp only at *
    by_cases h3 : k = 3
    · subst h3
      go_enter Tryz.func106,Tryz.ntmps106
      go_wp2_with fail
      refine (HO _).mono ?_
      rintro e w1 ⟨rfl,k1⟩
      have q0 : w1.cell? ⟨w.heap.size,0,none⟩ = some (.int .i64 3):=k1.cell (cell_of (alloc_new w _ _) rfl)
      have q1 : w1.cell? ⟨w.heap.size,1,none⟩ = some (.int .i64 m):=k1.cell (cell_of (alloc_new w _ _) rfl)
      have q2 : w1.cell? ⟨w.heap.size,2,none⟩ = some (.float .f64 g):=k1.cell (cell_of (alloc_new w _ _) rfl)
      have q3 : w1.cell? ⟨w.heap.size,3,none⟩ = some (.string x):=k1.cell (cell_of (alloc_new w _ _) rfl)
      have q4 : w1.cell? ⟨w.heap.size,4,none⟩ = some (.int .i64 r):=k1.cell (cell_of (alloc_new w _ _) rfl)
      have HK : Hid (Kb 0 w w1):=(kb_alloc _ _ _).trans k1
      clear k1
      go_wp2_with fail
      go_ret
      exact ⟨rfl,HK⟩
    · have h3:=bne h3
      go_enter Tryz.func106,Tryz.ntmps106
      go_wp2_with fail
      refine (HO _).mono ?_
      rintro e w1 ⟨rfl,k1⟩
      have q0 : w1.cell? ⟨w.heap.size,0,none⟩ = some (.int .i64 k):=k1.cell (cell_of (alloc_new w _ _) rfl)
      have q1 : w1.cell? ⟨w.heap.size,1,none⟩ = some (.int .i64 m):=k1.cell (cell_of (alloc_new w _ _) rfl)
      have q2 : w1.cell? ⟨w.heap.size,2,none⟩ = some (.float .f64 g):=k1.cell (cell_of (alloc_new w _ _) rfl)
      have q3 : w1.cell? ⟨w.heap.size,3,none⟩ = some (.string x):=k1.cell (cell_of (alloc_new w _ _) rfl)
      have q4 : w1.cell? ⟨w.heap.size,4,none⟩ = some (.int .i64 r):=k1.cell (cell_of (alloc_new w _ _) rfl)
      have HK : Hid (Kb 0 w w1):=(kb_alloc _ _ _).trans k1
      clear k1
      go_wp2_with fail
      go_ret
      exact ⟨rfl,HK⟩
  rw [dc_t hv] at HO
  by_cases h5 : v.k = 5 ∨ v.k = 6 ∨ v.k = 7
  · rw [dc_t (fun q : Cok _=>h5.elim q.2.1.1 (fun h=>h.elim q.2.1.2.1 q.2.1.2.2))]
    obtain ⟨k,m,g,x,r⟩:=v
    clear hvg hv hfc
    dsimp only at *
    have HT:=fun w=>thing_t (m:=m) (g:=g) (x:=x) (r:=r) h5 w
    rcases h5 with rfl | rfl | rfl
    · skip
      go_enter Tryz.func106,Tryz.ntmps106
      go_wp2_with fail
      refine (HO _).mono ?_
      rintro e w1 ⟨rfl,k1⟩
      have q0 : w1.cell? ⟨w.heap.size,0,none⟩ = some (.int .i64 5):=k1.cell (cell_of (alloc_new w _ _) rfl)
      have q1 : w1.cell? ⟨w.heap.size,1,none⟩ = some (.int .i64 m):=k1.cell (cell_of (alloc_new w _ _) rfl)
      have q2 : w1.cell? ⟨w.heap.size,2,none⟩ = some (.float .f64 g):=k1.cell (cell_of (alloc_new w _ _) rfl)
      have q3 : w1.cell? ⟨w.heap.size,3,none⟩ = some (.string x):=k1.cell (cell_of (alloc_new w _ _) rfl)
      have q4 : w1.cell? ⟨w.heap.size,4,none⟩ = some (.int .i64 r):=k1.cell (cell_of (alloc_new w _ _) rfl)
      have HK : Hid (Kb 0 w w1):=(kb_alloc _ _ _).trans k1
      clear k1
      go_wp2_with fail
      refine (HT _).mono ?_
      rintro e w2 ⟨rfl,k2⟩
      have HK2 : Hid (Kb 0 w w2):=(show Kb 0 w w1 from HK).trans k2
      clear k2 HK
      go_wp2_with fail
      go_ret
      exact ⟨rfl,HK2⟩
    · skip
      go_enter Tryz.func106,Tryz.ntmps106
      go_wp2_with fail
      refine (HO _).mono ?_
      rintro e w1 ⟨rfl,k1⟩
      have q0 : w1.cell? ⟨w.heap.size,0,none⟩ = some (.int .i64 6):=k1.cell (cell_of (alloc_new w _ _) rfl)
      have q1 : w1.cell? ⟨w.heap.size,1,none⟩ = some (.int .i64 m):=k1.cell (cell_of (alloc_new w _ _) rfl)
      have q2 : w1.cell? ⟨w.heap.size,2,none⟩ = some (.float .f64 g):=k1.cell (cell_of (alloc_new w _ _) rfl)
      have q3 : w1.cell? ⟨w.heap.size,3,none⟩ = some (.string x):=k1.cell (cell_of (alloc_new w _ _) rfl)
      have q4 : w1.cell? ⟨w.heap.size,4,none⟩ = some (.int .i64 r):=k1.cell (cell_of (alloc_new w _ _) rfl)
      have HK : Hid (Kb 0 w w1):=(kb_alloc _ _ _).trans k1
      clear k1
      go_wp2_with fail
      refine (HT _).mono ?_
      rintro e w2 ⟨rfl,k2⟩
      have HK2 : Hid (Kb 0 w w2):=(show Kb 0 w w1 from HK).trans k2
      clear k2 HK
      go_wp2_with fail
      go_ret
      exact ⟨rfl,HK2⟩
    · skip
      go_enter Tryz.func106,Tryz.ntmps106
      go_wp2_with fail
      refine (HO _).mono ?_
      rintro e w1 ⟨rfl,k1⟩
      have q0 : w1.cell? ⟨w.heap.size,0,none⟩ = some (.int .i64 7):=k1.cell (cell_of (alloc_new w _ _) rfl)
      have q1 : w1.cell? ⟨w.heap.size,1,none⟩ = some (.int .i64 m):=k1.cell (cell_of (alloc_new w _ _) rfl)
      have q2 : w1.cell? ⟨w.heap.size,2,none⟩ = some (.float .f64 g):=k1.cell (cell_of (alloc_new w _ _) rfl)
      have q3 : w1.cell? ⟨w.heap.size,3,none⟩ = some (.string x):=k1.cell (cell_of (alloc_new w _ _) rfl)
      have q4 : w1.cell? ⟨w.heap.size,4,none⟩ = some (.int .i64 r):=k1.cell (cell_of (alloc_new w _ _) rfl)
      have HK : Hid (Kb 0 w w1):=(kb_alloc _ _ _).trans k1
      clear k1
      go_wp2_with fail
      refine (HT _).mono ?_
      rintro e w2 ⟨rfl,k2⟩
      have HK2 : Hid (Kb 0 w w2):=(show Kb 0 w w1 from HK).trans k2
      clear k2 HK
      go_wp2_with fail
      go_ret
      exact ⟨rfl,HK2⟩
  have h5a : v.k ≠ 5:=fun h=>h5 (.inl h)
  have h6a : v.k ≠ 6:=fun h=>h5 (.inr (.inl h))
  have h7a : v.k ≠ 7:=fun h=>h5 (.inr (.inr h))
  by_cases h3 : v.k = 3
  · rcases hfc with hf | hf
    · rw [dc_t (fun q : Cok _=>(by have:=q.2.2.1 h3;rw [hf] at this;cases this))]
      obtain ⟨k,m,g,x,r⟩:=v
      clear hvg hv h5 h5a h6a h7a
      dsimp only at *
      subst h3
      go_enter Tryz.func106,Tryz.ntmps106
      go_wp2_with fail
      refine (HO _).mono ?_
      rintro e w1 ⟨rfl,k1⟩
      have q0 : w1.cell? ⟨w.heap.size,0,none⟩ = some (.int .i64 3):=k1.cell (cell_of (alloc_new w _ _) rfl)
      have q1 : w1.cell? ⟨w.heap.size,1,none⟩ = some (.int .i64 m):=k1.cell (cell_of (alloc_new w _ _) rfl)
      have q2 : w1.cell? ⟨w.heap.size,2,none⟩ = some (.float .f64 g):=k1.cell (cell_of (alloc_new w _ _) rfl)
      have q3 : w1.cell? ⟨w.heap.size,3,none⟩ = some (.string x):=k1.cell (cell_of (alloc_new w _ _) rfl)
      have q4 : w1.cell? ⟨w.heap.size,4,none⟩ = some (.int .i64 r):=k1.cell (cell_of (alloc_new w _ _) rfl)
      have HK : Hid (Kb 0 w w1):=(kb_alloc _ _ _).trans k1
      clear k1
      go_wp2_with (go_at_call 140;refine (nan_t hf _).mono ?_;rintro e w2 ⟨rfl,rfl⟩)
      go_ret
      exact ⟨rfl,HK⟩
    · rw [dc_f (not_not_intro ⟨hv,⟨h5a,h6a,h7a⟩,fun _=>hf,fun h=>absurd h3 h⟩)]
      obtain ⟨k,m,g,x,r⟩:=v
      clear hvg hv h5 h5a h6a h7a
      dsimp only at *
      subst h3
      go_enter Tryz.func106,Tryz.ntmps106
      go_wp2_with fail
      refine (HO _).mono ?_
      rintro e w1 ⟨rfl,k1⟩
      have q0 : w1.cell? ⟨w.heap.size,0,none⟩ = some (.int .i64 3):=k1.cell (cell_of (alloc_new w _ _) rfl)
      have q1 : w1.cell? ⟨w.heap.size,1,none⟩ = some (.int .i64 m):=k1.cell (cell_of (alloc_new w _ _) rfl)
      have q2 : w1.cell? ⟨w.heap.size,2,none⟩ = some (.float .f64 g):=k1.cell (cell_of (alloc_new w _ _) rfl)
      have q3 : w1.cell? ⟨w.heap.size,3,none⟩ = some (.string x):=k1.cell (cell_of (alloc_new w _ _) rfl)
      have q4 : w1.cell? ⟨w.heap.size,4,none⟩ = some (.int .i64 r):=k1.cell (cell_of (alloc_new w _ _) rfl)
      have HK : Hid (Kb 0 w w1):=(kb_alloc _ _ _).trans k1
      clear k1
      go_wp2_with (go_at_call 140;refine (nan_f hf _).mono ?_;rintro e w2 ⟨rfl,rfl⟩)
      go_ret
      exact ⟨rfl,HK⟩
  rcases hvg hv h3 with hz | hz
  · rw [dc_f (not_not_intro ⟨hv,⟨h5a,h6a,h7a⟩,fun h=>absurd h h3,fun _=>hz⟩)]
    obtain ⟨k,m,g,x,r⟩:=v
    clear hvg hv h5 hfc
    dsimp only at *
    subst hz
    have HT:=fun w=>thing_f (m:=m) (g:=0) (x:=x) (r:=r) ⟨h5a,h6a,h7a⟩ w
    have h3:=bne h3
    have h5:=bne h5a
    have h6:=bne h6a
    have h7:=bne h7a
    have hq:=quo_run (x:=0) (r:=9218868437227405312) (by decide)
    have hgt : FloatKind.f64.format.order 9218868437227405312 0 = some .gt:=by decide
    have hz0 : FloatKind.f64.format.order 0 0 = some .eq:=by decide
    go_enter Tryz.func106,Tryz.ntmps106
    go_wp2_with fail
    refine (HO _).mono ?_
    rintro e w1 ⟨rfl,k1⟩
    have q0 : w1.cell? ⟨w.heap.size,0,none⟩ = some (.int .i64 k):=k1.cell (cell_of (alloc_new w _ _) rfl)
    have q1 : w1.cell? ⟨w.heap.size,1,none⟩ = some (.int .i64 m):=k1.cell (cell_of (alloc_new w _ _) rfl)
    have q2 : w1.cell? ⟨w.heap.size,2,none⟩ = some (.float .f64 0):=k1.cell (cell_of (alloc_new w _ _) rfl)
    have q3 : w1.cell? ⟨w.heap.size,3,none⟩ = some (.string x):=k1.cell (cell_of (alloc_new w _ _) rfl)
    have q4 : w1.cell? ⟨w.heap.size,4,none⟩ = some (.int .i64 r):=k1.cell (cell_of (alloc_new w _ _) rfl)
    have HK : Hid (Kb 0 w w1):=(kb_alloc _ _ _).trans k1
    clear k1
    go_wp2_with fail
    refine (HT _).mono ?_
    rintro e w2 ⟨rfl,k2⟩
    have p2 : w2.cell? ⟨w.heap.size,2,none⟩ = some (.float .f64 0):=k2.cell q2
    have HK2 : Hid (Kb 0 w w2):=(show Kb 0 w w1 from HK).trans k2
    clear k2 HK q0 q1 q2 q3 q4
    go_wp2_with (go_at_call 142;refine (sign_f _).mono ?_;rintro e w3 ⟨rfl,rfl⟩)
    go_ret
    exact ⟨rfl,HK2⟩
  · rw [dc_t (fun q : Cok _=>(by have:=q.2.2.2 h3;rw [hz] at this;cases this))]
    obtain ⟨k,m,g,x,r⟩:=v
    clear hvg hv h5 hfc
    dsimp only at *
    subst hz
    have HT:=fun w=>thing_f (m:=m) (g:=9223372036854775808) (x:=x) (r:=r) ⟨h5a,h6a,h7a⟩ w
    have h3:=bne h3
    have h5:=bne h5a
    have h6:=bne h6a
    have h7:=bne h7a
    have hq:=quo_run (x:=9223372036854775808) (r:=18442240474082181120) (by decide)
    have hgt : FloatKind.f64.format.order 18442240474082181120 0 = some .lt:=by decide
    have hz0 : FloatKind.f64.format.order 9223372036854775808 0 = some .eq:=by decide
    go_enter Tryz.func106,Tryz.ntmps106
    go_wp2_with fail
    refine (HO _).mono ?_
    rintro e w1 ⟨rfl,k1⟩
    have q0 : w1.cell? ⟨w.heap.size,0,none⟩ = some (.int .i64 k):=k1.cell (cell_of (alloc_new w _ _) rfl)
    have q1 : w1.cell? ⟨w.heap.size,1,none⟩ = some (.int .i64 m):=k1.cell (cell_of (alloc_new w _ _) rfl)
    have q2 : w1.cell? ⟨w.heap.size,2,none⟩ = some (.float .f64 9223372036854775808):=k1.cell (cell_of (alloc_new w _ _) rfl)
    have q3 : w1.cell? ⟨w.heap.size,3,none⟩ = some (.string x):=k1.cell (cell_of (alloc_new w _ _) rfl)
    have q4 : w1.cell? ⟨w.heap.size,4,none⟩ = some (.int .i64 r):=k1.cell (cell_of (alloc_new w _ _) rfl)
    have HK : Hid (Kb 0 w w1):=(kb_alloc _ _ _).trans k1
    clear k1
    go_wp2_with fail
    refine (HT _).mono ?_
    rintro e w2 ⟨rfl,k2⟩
    have p2 : w2.cell? ⟨w.heap.size,2,none⟩ = some (.float .f64 9223372036854775808):=k2.cell q2
    have HK2 : Hid (Kb 0 w w2):=(show Kb 0 w w1 from HK).trans k2
    clear k2 HK q0 q1 q2 q3 q4
    go_wp2_with (go_at_call 142;refine (sign_t _).mono ?_;rintro e w3 ⟨rfl,rfl⟩)
    go_ret
    exact ⟨rfl,HK2⟩
end Go.Proofs.YtnmeemjoodoalaaGreatDoor.Fo
