import Derived.Test.YtnmeemjoodoalaaGreatDoorMCjb
import Derived.Test.YtnmeemjoodoalaaGreatDoorMCda
set_option maxHeartbeats 32000000
namespace Go.Proofs.YtnmeemjoodoalaaGreatDoor.Fo
open Go.ChangeShapes Go.WideShapes Go.ChangeAt Go.RowKit
set_option linter.unusedVariables false
set_option maxRecDepth 100000
theorem sp_roles (n : Nat) (h1 : 1 ≤ n) (h2 : n ≤ 42) (w : World) : Calls Tryz.prog 133 #[.int .i64 (n : Int)] w fun e w'=>e = .returned (.slice (some ⟨w.heap.size,0,none⟩) 4 4) ∧ w' = w.alloc (.cells #[.int .i64 (mr n 0 : Int),.int .i64 (mr n 1 : Int),.int .i64 (mr n 2 : Int),.int .i64 (mr n 3 : Int)] 3):=by
  by_cases a : n ≤ 14
  · exact sp_roles0 n h1 a w
  by_cases b : n ≤ 28
  · exact sp_roles1 n (by omega) b w
  exact sp_roles2 n (by omega) h2 w
theorem sp_noroles (o : Int) (h : ¬ (1 ≤ o ∧ o ≤ 42)) (w : World) : Calls Tryz.prog 133 #[.int .i64 o] w fun e w'=>e = .returned (.slice none 0 0) ∧ w' = w:=by
  have e1:=bne (show o ≠ 1 by omega)
  have e2:=bne (show o ≠ 2 by omega)
  have e3:=bne (show o ≠ 3 by omega)
  have e4:=bne (show o ≠ 4 by omega)
  have e5:=bne (show o ≠ 5 by omega)
  have e6:=bne (show o ≠ 6 by omega)
  have e7:=bne (show o ≠ 7 by omega)
  have e8:=bne (show o ≠ 8 by omega)
  have e9:=bne (show o ≠ 9 by omega)
  have e10:=bne (show o ≠ 10 by omega)
  have e11:=bne (show o ≠ 11 by omega)
  have e12:=bne (show o ≠ 12 by omega)
  have e13:=bne (show o ≠ 13 by omega)
  have e14:=bne (show o ≠ 14 by omega)
  have e15:=bne (show o ≠ 15 by omega)
  have e16:=bne (show o ≠ 16 by omega)
  have e17:=bne (show o ≠ 17 by omega)
  have e18:=bne (show o ≠ 18 by omega)
  have e19:=bne (show o ≠ 19 by omega)
  have e20:=bne (show o ≠ 20 by omega)
  have e21:=bne (show o ≠ 21 by omega)
  have e22:=bne (show o ≠ 22 by omega)
  have e23:=bne (show o ≠ 23 by omega)
  have e24:=bne (show o ≠ 24 by omega)
  have e25:=bne (show o ≠ 25 by omega)
  have e26:=bne (show o ≠ 26 by omega)
  have e27:=bne (show o ≠ 27 by omega)
  have e28:=bne (show o ≠ 28 by omega)
  have e29:=bne (show o ≠ 29 by omega)
  have e30:=bne (show o ≠ 30 by omega)
  have e31:=bne (show o ≠ 31 by omega)
  have e32:=bne (show o ≠ 32 by omega)
  have e33:=bne (show o ≠ 33 by omega)
  have e34:=bne (show o ≠ 34 by omega)
  have e35:=bne (show o ≠ 35 by omega)
  have e36:=bne (show o ≠ 36 by omega)
  have e37:=bne (show o ≠ 37 by omega)
  have e38:=bne (show o ≠ 38 by omega)
  have e39:=bne (show o ≠ 39 by omega)
  have e40:=bne (show o ≠ 40 by omega)
  have e41:=bne (show o ≠ 41 by omega)
  have e42:=bne (show o ≠ 42 by omega)
  clear h
  go_enter Tryz.func133,Tryz.ntmps133
  go_wp2_with fail
  go_ret
  exact ⟨rfl,rfl⟩
theorem sp_fields (a : Iv) (w : World) : Calls Tryz.prog 43 #[insv a] w fun e w'=>e = .returned (.slice (some ⟨w.heap.size + 1,0,none⟩) 4 4) ∧ w' = (w.alloc (.cells #[.int .i64 a.o,.int .i64 a.a,.int .i64 a.b,.int .i64 a.c,.int .i64 a.d] 81)).alloc (.cells #[.int .i64 a.a,.int .i64 a.b,.int .i64 a.c,.int .i64 a.d] 3):=by
  unfold insv
  go_enter Tryz.func43,Tryz.ntmps43
  go_wp2_with fail
  go_ret
  exact ⟨rfl,rfl⟩
theorem sp_fits {A : Addr} {np ca p n : Nat} {d : Pd} {pu pc pn pm : Option Addr} {cu cc cn cm : Nat} (w : World) (x : Int) (hn : n < 22) (hp : p < np) (hnp : np ≤ 1048576) (hcel : CelP w (A.add (p * 9)) d (.slice pu d.u cu) (.slice pc d.c cc) (.slice pn d.n cn) (.slice pm d.d cm)) (hu : d.u ≤ 1048576) (hc : d.c ≤ 1048576) (hni : d.n ≤ 1048576) (hg : 0 ≤ d.g ∧ d.g ≤ 250) :
    Calls Tryz.prog 134 #[.agg #[.slice (some A) np ca],.int .i64 (p : Int),.int .i64 (n : Int),.int .i64 x] w fun e w'=>e = .returned (.bool (dc (Fit np d (mcl n) x))) ∧ Kb 0 w w':=by
  obtain ⟨d0,d1,d2,d3,d4,d5,d6,d7,d8⟩:=hcel.keep (Nat.zero_le _) (kb_alloc 0 w (.cells #[.slice (some A) np ca] 30))
  have hpI : (p : Int) < (np : Int):=by omega
  have hnpI : (np : Int) ≤ 1048576:=by omega
  have huI : (d.u : Int) ≤ 1048576:=by omega
  have hcI : (d.c : Int) ≤ 1048576:=by omega
  have hniI : (d.n : Int) ≤ 1048576:=by omega
  clear hp hnp hcel hu hc hni
  rcases (by omega : n = 0 ∨ n = 1 ∨ n = 2 ∨ n = 3 ∨ n = 4 ∨ n = 5 ∨ n = 6 ∨ n = 7 ∨ n = 8 ∨ n = 9 ∨ n = 10 ∨ n = 11 ∨ n = 12 ∨ n = 13 ∨ n = 14 ∨ n = 15 ∨ n = 16 ∨ n = 17 ∨ n = 18 ∨ n = 19 ∨ n = 20 ∨ n = 21) with rfl | rfl | rfl | rfl | rfl | rfl | rfl | rfl | rfl | rfl | rfl | rfl | rfl | rfl | rfl | rfl | rfl | rfl | rfl | rfl | rfl | rfl
  · by_cases h : x = 0
    · have g : (x == 0) = true:=beq1 h
      rw [dc_t (show Fit np d (mcl 0) x from (show (0 : Int) ≤ x ∧ x ≤ 0 by omega))]
      clear hn
      go_enter Tryz.func134,Tryz.ntmps134
      go_wp2_with fail
      go_ret
      exact ⟨by first | rfl | simp [g],kb_alloc2 _ _ _ _⟩
    · have g : (x == 0) = false:=bne h
      rw [dc_f (fun q : Fit np d (mcl 0) x=>h (by have q : (0 : Int) ≤ x ∧ x ≤ 0:=q;omega))]
      clear hn
      go_enter Tryz.func134,Tryz.ntmps134
      go_wp2_with fail
      go_ret
      exact ⟨by first | rfl | simp [g],kb_alloc2 _ _ _ _⟩
  · by_cases h : 0 ≤ x ∧ x ≤ d.g - 1
    · rw [dc_t (show Fit np d (mcl 1) x from h)]
      clear hn
      go_enter Tryz.func134,Tryz.ntmps134
      go_wp2_with ((go_at_call 99;first | refine (sp_in_t (by omega) _).mono ?_ | refine (sp_in_f (by omega) _).mono ?_);rintro e w1 ⟨rfl,rfl⟩)
      go_ret
      exact ⟨rfl,kb_alloc2 _ _ _ _⟩
    · rw [dc_f (show ¬ Fit np d (mcl 1) x from h)]
      clear hn
      go_enter Tryz.func134,Tryz.ntmps134
      go_wp2_with ((go_at_call 99;first | refine (sp_in_t (by omega) _).mono ?_ | refine (sp_in_f (by omega) _).mono ?_);rintro e w1 ⟨rfl,rfl⟩)
      go_ret
      exact ⟨rfl,kb_alloc2 _ _ _ _⟩
  · by_cases h : -d.g ≤ x ∧ x ≤ d.g - 1
    · rw [dc_t (show Fit np d (mcl 2) x from h)]
      clear hn
      go_enter Tryz.func134,Tryz.ntmps134
      go_wp2_with ((go_at_call 99;first | refine (sp_in_t (by omega) _).mono ?_ | refine (sp_in_f (by omega) _).mono ?_);rintro e w1 ⟨rfl,rfl⟩)
      go_ret
      exact ⟨rfl,kb_alloc2 _ _ _ _⟩
    · rw [dc_f (show ¬ Fit np d (mcl 2) x from h)]
      clear hn
      go_enter Tryz.func134,Tryz.ntmps134
      go_wp2_with ((go_at_call 99;first | refine (sp_in_t (by omega) _).mono ?_ | refine (sp_in_f (by omega) _).mono ?_);rintro e w1 ⟨rfl,rfl⟩)
      go_ret
      exact ⟨rfl,kb_alloc2 _ _ _ _⟩
  · by_cases h : -d.g ≤ x ∧ x ≤ d.g - 1
    · rw [dc_t (show Fit np d (mcl 3) x from h)]
      clear hn
      go_enter Tryz.func134,Tryz.ntmps134
      go_wp2_with ((go_at_call 99;first | refine (sp_in_t (by omega) _).mono ?_ | refine (sp_in_f (by omega) _).mono ?_);rintro e w1 ⟨rfl,rfl⟩)
      go_ret
      exact ⟨rfl,kb_alloc2 _ _ _ _⟩
    · rw [dc_f (show ¬ Fit np d (mcl 3) x from h)]
      clear hn
      go_enter Tryz.func134,Tryz.ntmps134
      go_wp2_with ((go_at_call 99;first | refine (sp_in_t (by omega) _).mono ?_ | refine (sp_in_f (by omega) _).mono ?_);rintro e w1 ⟨rfl,rfl⟩)
      go_ret
      exact ⟨rfl,kb_alloc2 _ _ _ _⟩
  · by_cases h : 0 ≤ x ∧ x ≤ d.g - 1
    · rw [dc_t (show Fit np d (mcl 4) x from h)]
      clear hn
      go_enter Tryz.func134,Tryz.ntmps134
      go_wp2_with ((go_at_call 99;first | refine (sp_in_t (by omega) _).mono ?_ | refine (sp_in_f (by omega) _).mono ?_);rintro e w1 ⟨rfl,rfl⟩)
      go_ret
      exact ⟨rfl,kb_alloc2 _ _ _ _⟩
    · rw [dc_f (show ¬ Fit np d (mcl 4) x from h)]
      clear hn
      go_enter Tryz.func134,Tryz.ntmps134
      go_wp2_with ((go_at_call 99;first | refine (sp_in_t (by omega) _).mono ?_ | refine (sp_in_f (by omega) _).mono ?_);rintro e w1 ⟨rfl,rfl⟩)
      go_ret
      exact ⟨rfl,kb_alloc2 _ _ _ _⟩
  · by_cases h : 0 ≤ x ∧ x ≤ d.g - 1
    · rw [dc_t (show Fit np d (mcl 5) x from h)]
      clear hn
      go_enter Tryz.func134,Tryz.ntmps134
      go_wp2_with ((go_at_call 99;first | refine (sp_in_t (by omega) _).mono ?_ | refine (sp_in_f (by omega) _).mono ?_);rintro e w1 ⟨rfl,rfl⟩)
      go_ret
      exact ⟨rfl,kb_alloc2 _ _ _ _⟩
    · rw [dc_f (show ¬ Fit np d (mcl 5) x from h)]
      clear hn
      go_enter Tryz.func134,Tryz.ntmps134
      go_wp2_with ((go_at_call 99;first | refine (sp_in_t (by omega) _).mono ?_ | refine (sp_in_f (by omega) _).mono ?_);rintro e w1 ⟨rfl,rfl⟩)
      go_ret
      exact ⟨rfl,kb_alloc2 _ _ _ _⟩
  · by_cases h : 0 ≤ x ∧ x ≤ d.g - 1
    · rw [dc_t (show Fit np d (mcl 6) x from h)]
      clear hn
      go_enter Tryz.func134,Tryz.ntmps134
      go_wp2_with ((go_at_call 99;first | refine (sp_in_t (by omega) _).mono ?_ | refine (sp_in_f (by omega) _).mono ?_);rintro e w1 ⟨rfl,rfl⟩)
      go_ret
      exact ⟨rfl,kb_alloc2 _ _ _ _⟩
    · rw [dc_f (show ¬ Fit np d (mcl 6) x from h)]
      clear hn
      go_enter Tryz.func134,Tryz.ntmps134
      go_wp2_with ((go_at_call 99;first | refine (sp_in_t (by omega) _).mono ?_ | refine (sp_in_f (by omega) _).mono ?_);rintro e w1 ⟨rfl,rfl⟩)
      go_ret
      exact ⟨rfl,kb_alloc2 _ _ _ _⟩
  · by_cases h : 0 ≤ x ∧ x ≤ (d.c : Int) - 1
    · rw [dc_t (show Fit np d (mcl 7) x from h)]
      clear hn
      go_enter Tryz.func134,Tryz.ntmps134
      go_wp2_with ((go_at_call 99;first | refine (sp_in_t (by omega) _).mono ?_ | refine (sp_in_f (by omega) _).mono ?_);rintro e w1 ⟨rfl,rfl⟩)
      go_ret
      exact ⟨rfl,kb_alloc2 _ _ _ _⟩
    · rw [dc_f (show ¬ Fit np d (mcl 7) x from h)]
      clear hn
      go_enter Tryz.func134,Tryz.ntmps134
      go_wp2_with ((go_at_call 99;first | refine (sp_in_t (by omega) _).mono ?_ | refine (sp_in_f (by omega) _).mono ?_);rintro e w1 ⟨rfl,rfl⟩)
      go_ret
      exact ⟨rfl,kb_alloc2 _ _ _ _⟩
  · by_cases h : 0 ≤ x ∧ x ≤ (d.u : Int) - 1
    · rw [dc_t (show Fit np d (mcl 8) x from h)]
      clear hn
      go_enter Tryz.func134,Tryz.ntmps134
      go_wp2_with ((go_at_call 99;first | refine (sp_in_t (by omega) _).mono ?_ | refine (sp_in_f (by omega) _).mono ?_);rintro e w1 ⟨rfl,rfl⟩)
      go_ret
      exact ⟨rfl,kb_alloc2 _ _ _ _⟩
    · rw [dc_f (show ¬ Fit np d (mcl 8) x from h)]
      clear hn
      go_enter Tryz.func134,Tryz.ntmps134
      go_wp2_with ((go_at_call 99;first | refine (sp_in_t (by omega) _).mono ?_ | refine (sp_in_f (by omega) _).mono ?_);rintro e w1 ⟨rfl,rfl⟩)
      go_ret
      exact ⟨rfl,kb_alloc2 _ _ _ _⟩
  · by_cases h : 0 ≤ x ∧ x ≤ (np : Int) - 1
    · rw [dc_t (show Fit np d (mcl 9) x from h)]
      clear hn
      go_enter Tryz.func134,Tryz.ntmps134
      go_wp2_with ((go_at_call 99;first | refine (sp_in_t (by omega) _).mono ?_ | refine (sp_in_f (by omega) _).mono ?_);rintro e w1 ⟨rfl,rfl⟩)
      go_ret
      exact ⟨rfl,kb_alloc2 _ _ _ _⟩
    · rw [dc_f (show ¬ Fit np d (mcl 9) x from h)]
      clear hn
      go_enter Tryz.func134,Tryz.ntmps134
      go_wp2_with ((go_at_call 99;first | refine (sp_in_t (by omega) _).mono ?_ | refine (sp_in_f (by omega) _).mono ?_);rintro e w1 ⟨rfl,rfl⟩)
      go_ret
      exact ⟨rfl,kb_alloc2 _ _ _ _⟩
  · by_cases h : 0 ≤ x ∧ x ≤ (d.n : Int) - 1
    · rw [dc_t (show Fit np d (mcl 10) x from h)]
      clear hn
      go_enter Tryz.func134,Tryz.ntmps134
      go_wp2_with ((go_at_call 99;first | refine (sp_in_t (by omega) _).mono ?_ | refine (sp_in_f (by omega) _).mono ?_);rintro e w1 ⟨rfl,rfl⟩)
      go_ret
      exact ⟨rfl,kb_alloc2 _ _ _ _⟩
    · rw [dc_f (show ¬ Fit np d (mcl 10) x from h)]
      clear hn
      go_enter Tryz.func134,Tryz.ntmps134
      go_wp2_with ((go_at_call 99;first | refine (sp_in_t (by omega) _).mono ?_ | refine (sp_in_f (by omega) _).mono ?_);rintro e w1 ⟨rfl,rfl⟩)
      go_ret
      exact ⟨rfl,kb_alloc2 _ _ _ _⟩
  · by_cases h : 1 ≤ x ∧ x ≤ 100000
    · rw [dc_t (show Fit np d (mcl 11) x from h)]
      clear hn
      go_enter Tryz.func134,Tryz.ntmps134
      go_wp2_with ((go_at_call 99;first | refine (sp_in_t (by omega) _).mono ?_ | refine (sp_in_f (by omega) _).mono ?_);rintro e w1 ⟨rfl,rfl⟩)
      go_ret
      exact ⟨rfl,kb_alloc2 _ _ _ _⟩
    · rw [dc_f (show ¬ Fit np d (mcl 11) x from h)]
      clear hn
      go_enter Tryz.func134,Tryz.ntmps134
      go_wp2_with ((go_at_call 99;first | refine (sp_in_t (by omega) _).mono ?_ | refine (sp_in_f (by omega) _).mono ?_);rintro e w1 ⟨rfl,rfl⟩)
      go_ret
      exact ⟨rfl,kb_alloc2 _ _ _ _⟩
  · by_cases h : 0 ≤ x ∧ x ≤ 100000
    · rw [dc_t (show Fit np d (mcl 12) x from h)]
      clear hn
      go_enter Tryz.func134,Tryz.ntmps134
      go_wp2_with ((go_at_call 99;first | refine (sp_in_t (by omega) _).mono ?_ | refine (sp_in_f (by omega) _).mono ?_);rintro e w1 ⟨rfl,rfl⟩)
      go_ret
      exact ⟨rfl,kb_alloc2 _ _ _ _⟩
    · rw [dc_f (show ¬ Fit np d (mcl 12) x from h)]
      clear hn
      go_enter Tryz.func134,Tryz.ntmps134
      go_wp2_with ((go_at_call 99;first | refine (sp_in_t (by omega) _).mono ?_ | refine (sp_in_f (by omega) _).mono ?_);rintro e w1 ⟨rfl,rfl⟩)
      go_ret
      exact ⟨rfl,kb_alloc2 _ _ _ _⟩
  · by_cases h : 0 ≤ x ∧ x ≤ d.g
    · rw [dc_t (show Fit np d (mcl 13) x from h)]
      clear hn
      go_enter Tryz.func134,Tryz.ntmps134
      go_wp2_with ((go_at_call 99;first | refine (sp_in_t (by omega) _).mono ?_ | refine (sp_in_f (by omega) _).mono ?_);rintro e w1 ⟨rfl,rfl⟩)
      go_ret
      exact ⟨rfl,kb_alloc2 _ _ _ _⟩
    · rw [dc_f (show ¬ Fit np d (mcl 13) x from h)]
      clear hn
      go_enter Tryz.func134,Tryz.ntmps134
      go_wp2_with ((go_at_call 99;first | refine (sp_in_t (by omega) _).mono ?_ | refine (sp_in_f (by omega) _).mono ?_);rintro e w1 ⟨rfl,rfl⟩)
      go_ret
      exact ⟨rfl,kb_alloc2 _ _ _ _⟩
  · by_cases h : 0 ≤ x ∧ x ≤ d.g - 2
    · rw [dc_t (show Fit np d (mcl 14) x from h)]
      clear hn
      go_enter Tryz.func134,Tryz.ntmps134
      go_wp2_with ((go_at_call 99;first | refine (sp_in_t (by omega) _).mono ?_ | refine (sp_in_f (by omega) _).mono ?_);rintro e w1 ⟨rfl,rfl⟩)
      go_ret
      exact ⟨rfl,kb_alloc2 _ _ _ _⟩
    · rw [dc_f (show ¬ Fit np d (mcl 14) x from h)]
      clear hn
      go_enter Tryz.func134,Tryz.ntmps134
      go_wp2_with ((go_at_call 99;first | refine (sp_in_t (by omega) _).mono ?_ | refine (sp_in_f (by omega) _).mono ?_);rintro e w1 ⟨rfl,rfl⟩)
      go_ret
      exact ⟨rfl,kb_alloc2 _ _ _ _⟩
  · by_cases h : 19 ≤ x ∧ x ≤ 22
    · rw [dc_t (show Fit np d (mcl 15) x from h)]
      clear hn
      go_enter Tryz.func134,Tryz.ntmps134
      go_wp2_with ((go_at_call 99;first | refine (sp_in_t (by omega) _).mono ?_ | refine (sp_in_f (by omega) _).mono ?_);rintro e w1 ⟨rfl,rfl⟩)
      go_ret
      exact ⟨rfl,kb_alloc2 _ _ _ _⟩
    · rw [dc_f (show ¬ Fit np d (mcl 15) x from h)]
      clear hn
      go_enter Tryz.func134,Tryz.ntmps134
      go_wp2_with ((go_at_call 99;first | refine (sp_in_t (by omega) _).mono ?_ | refine (sp_in_f (by omega) _).mono ?_);rintro e w1 ⟨rfl,rfl⟩)
      go_ret
      exact ⟨rfl,kb_alloc2 _ _ _ _⟩
  · by_cases h : 1 ≤ x ∧ x ≤ 18
    · rw [dc_t (show Fit np d (mcl 16) x from h)]
      clear hn
      go_enter Tryz.func134,Tryz.ntmps134
      go_wp2_with ((go_at_call 99;first | refine (sp_in_t (by omega) _).mono ?_ | refine (sp_in_f (by omega) _).mono ?_);rintro e w1 ⟨rfl,rfl⟩)
      go_ret
      exact ⟨rfl,kb_alloc2 _ _ _ _⟩
    · rw [dc_f (show ¬ Fit np d (mcl 16) x from h)]
      clear hn
      go_enter Tryz.func134,Tryz.ntmps134
      go_wp2_with ((go_at_call 99;first | refine (sp_in_t (by omega) _).mono ?_ | refine (sp_in_f (by omega) _).mono ?_);rintro e w1 ⟨rfl,rfl⟩)
      go_ret
      exact ⟨rfl,kb_alloc2 _ _ _ _⟩
  · by_cases h : 0 ≤ x ∧ x ≤ 250
    · rw [dc_t (show Fit np d (mcl 17) x from h)]
      clear hn
      go_enter Tryz.func134,Tryz.ntmps134
      go_wp2_with ((go_at_call 99;first | refine (sp_in_t (by omega) _).mono ?_ | refine (sp_in_f (by omega) _).mono ?_);rintro e w1 ⟨rfl,rfl⟩)
      go_ret
      exact ⟨rfl,kb_alloc2 _ _ _ _⟩
    · rw [dc_f (show ¬ Fit np d (mcl 17) x from h)]
      clear hn
      go_enter Tryz.func134,Tryz.ntmps134
      go_wp2_with ((go_at_call 99;first | refine (sp_in_t (by omega) _).mono ?_ | refine (sp_in_f (by omega) _).mono ?_);rintro e w1 ⟨rfl,rfl⟩)
      go_ret
      exact ⟨rfl,kb_alloc2 _ _ _ _⟩
  · by_cases h : 0 ≤ x ∧ x ≤ d.g - 3
    · rw [dc_t (show Fit np d (mcl 18) x from h)]
      clear hn
      go_enter Tryz.func134,Tryz.ntmps134
      go_wp2_with ((go_at_call 99;first | refine (sp_in_t (by omega) _).mono ?_ | refine (sp_in_f (by omega) _).mono ?_);rintro e w1 ⟨rfl,rfl⟩)
      go_ret
      exact ⟨rfl,kb_alloc2 _ _ _ _⟩
    · rw [dc_f (show ¬ Fit np d (mcl 18) x from h)]
      clear hn
      go_enter Tryz.func134,Tryz.ntmps134
      go_wp2_with ((go_at_call 99;first | refine (sp_in_t (by omega) _).mono ?_ | refine (sp_in_f (by omega) _).mono ?_);rintro e w1 ⟨rfl,rfl⟩)
      go_ret
      exact ⟨rfl,kb_alloc2 _ _ _ _⟩
  · by_cases h : 0 ≤ x ∧ x ≤ d.g - 2
    · rw [dc_t (show Fit np d (mcl 19) x from h)]
      clear hn
      go_enter Tryz.func134,Tryz.ntmps134
      go_wp2_with ((go_at_call 99;first | refine (sp_in_t (by omega) _).mono ?_ | refine (sp_in_f (by omega) _).mono ?_);rintro e w1 ⟨rfl,rfl⟩)
      go_ret
      exact ⟨rfl,kb_alloc2 _ _ _ _⟩
    · rw [dc_f (show ¬ Fit np d (mcl 19) x from h)]
      clear hn
      go_enter Tryz.func134,Tryz.ntmps134
      go_wp2_with ((go_at_call 99;first | refine (sp_in_t (by omega) _).mono ?_ | refine (sp_in_f (by omega) _).mono ?_);rintro e w1 ⟨rfl,rfl⟩)
      go_ret
      exact ⟨rfl,kb_alloc2 _ _ _ _⟩
  · by_cases h : 0 ≤ x ∧ x ≤ d.g - 2
    · rw [dc_t (show Fit np d (mcl 20) x from h)]
      clear hn
      go_enter Tryz.func134,Tryz.ntmps134
      go_wp2_with ((go_at_call 99;first | refine (sp_in_t (by omega) _).mono ?_ | refine (sp_in_f (by omega) _).mono ?_);rintro e w1 ⟨rfl,rfl⟩)
      go_ret
      exact ⟨rfl,kb_alloc2 _ _ _ _⟩
    · rw [dc_f (show ¬ Fit np d (mcl 20) x from h)]
      clear hn
      go_enter Tryz.func134,Tryz.ntmps134
      go_wp2_with ((go_at_call 99;first | refine (sp_in_t (by omega) _).mono ?_ | refine (sp_in_f (by omega) _).mono ?_);rintro e w1 ⟨rfl,rfl⟩)
      go_ret
      exact ⟨rfl,kb_alloc2 _ _ _ _⟩
  · by_cases h : 0 ≤ x ∧ x ≤ d.g - 1
    · rw [dc_t (show Fit np d (mcl 21) x from h)]
      clear hn
      go_enter Tryz.func134,Tryz.ntmps134
      go_wp2_with ((go_at_call 99;first | refine (sp_in_t (by omega) _).mono ?_ | refine (sp_in_f (by omega) _).mono ?_);rintro e w1 ⟨rfl,rfl⟩)
      go_ret
      exact ⟨rfl,kb_alloc2 _ _ _ _⟩
    · rw [dc_f (show ¬ Fit np d (mcl 21) x from h)]
      clear hn
      go_enter Tryz.func134,Tryz.ntmps134
      go_wp2_with ((go_at_call 99;first | refine (sp_in_t (by omega) _).mono ?_ | refine (sp_in_f (by omega) _).mono ?_);rintro e w1 ⟨rfl,rfl⟩)
      go_ret
      exact ⟨rfl,kb_alloc2 _ _ _ _⟩
end Go.Proofs.YtnmeemjoodoalaaGreatDoor.Fo
