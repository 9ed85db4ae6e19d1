import Derived.Test.YtnmeemjoodoalaaGreatDoorMCjb
set_option maxHeartbeats 16000000
namespace Go.Proofs.YtnmeemjoodoalaaGreatDoor.Fo
open Go.ChangeShapes Go.WideShapes Go.ChangeAt Go.RowKit
set_option linter.unusedVariables false
set_option maxRecDepth 100000
theorem sp_in_t {x lo hi : Int} (h : lo ≤ x ∧ x ≤ hi) (w : World) : Calls Tryz.prog 99 #[.int .i64 x,.int .i64 lo,.int .i64 hi] w fun e w'=>e = .returned (.bool true) ∧ w' = w:=by
  obtain ⟨h1,h2⟩:=h
  go_enter Tryz.func99,Tryz.ntmps99
  go_wp2_with fail
  go_ret
  exact ⟨rfl,rfl⟩
theorem sp_in_f {x lo hi : Int} (h : ¬ (lo ≤ x ∧ x ≤ hi)) (w : World) : Calls Tryz.prog 99 #[.int .i64 x,.int .i64 lo,.int .i64 hi] w fun e w'=>e = .returned (.bool false) ∧ w' = w:=by
  by_cases h1 : lo ≤ x
  · have h2 : ¬ x ≤ hi:=fun g=>h ⟨h1,g⟩
    go_enter Tryz.func99,Tryz.ntmps99
    go_wp2_with fail
    go_ret
    exact ⟨rfl,rfl⟩
  · go_enter Tryz.func99,Tryz.ntmps99
    go_wp2_with fail
    go_ret
    exact ⟨rfl,rfl⟩
theorem sp_fault (c f n : Int) (w : World) : Calls Tryz.prog 39 #[.int .i64 c,.int .i64 f,.int .i64 n] w fun e w'=>e = .returned (.agg #[.int .i64 c,.int .i64 f,.int .i64 n]) ∧ Kb 0 w w':=by
  go_enter Tryz.func39,Tryz.ntmps39
  go_wp2_with fail
  refine bodyPost_ret (by simp [results,Tryz.results39,go_sem];rfl) rfl ?_
  exact ⟨rfl,by repeat (first | exact Kb.refl _ _ | apply Kb.alloc)⟩
theorem sp_head {A : Addr} {np ca p : Nat} {d : Pd} {pu pc pn pm : Option Addr} {cu cc cn cm : Nat} (w : World) (hp : p < np) (hnp : np ≤ 1048576) (hcel : CelP w (A.add (p * 9)) d (.slice pu d.u cu) (.slice pc d.c cc) (.slice pn d.n cn) (.slice pm d.d cm)) (hu : d.u ≤ 1048576) (hc : d.c ≤ 1048576) (hg : -9223372036854775808 ≤ d.g) :
    Calls Tryz.prog 95 #[.agg #[.slice (some A) np ca],.int .i64 (p : Int)] w fun e w'=>e = .returned (.bool (dc (Hd p d))) ∧ Kb 0 w w':=by
  obtain ⟨d0,d1,d2,d3,d4,d5,d6,d7,d8⟩:=hcel.keep (Nat.zero_le _) (kb_alloc 0 w (.cells #[.slice (some A) np ca] 30))
  unfold Hd
  obtain ⟨x,l,m,r,g,u,U,c,C,n,N,dd,D⟩:=d
  dsimp only at *
  have hpI : (p : Int) < (np : Int):=by omega
  have hnpI : (np : Int) ≤ 1048576:=by omega
  have huI : (u : Int) ≤ 1048576:=by omega
  have hcI : (c : Int) ≤ 1048576:=by omega
  clear hp hnp hcel hu hc
  have hgw : IntKind.i64.wrap (-9223372036854775808 - 1) = 9223372036854775807:=by decide
  skip
  cases r with
  | false =>
    rw [if_neg (by decide)]
    by_cases h0 : x.size ≤ 40
    rotate_left
    · have g0 : ¬ (x.size : Int) ≤ 40:=by omega
      rw [dc_f (fun q=>h0 q.1)]
      go_enter Tryz.func95,Tryz.ntmps95
      go_wp2_with ((go_at_call 99;first | refine (sp_in_t (by omega) _).mono ?_ | refine (sp_in_f (by omega) _).mono ?_);rintro e w1 ⟨rfl,rfl⟩)
      go_ret
      exact ⟨rfl,kb_alloc2 _ _ _ _⟩
    have g0 : (x.size : Int) ≤ 40:=by omega
    by_cases h1 : 0 ≤ l ∧ l ≤ 100000
    rotate_left
    · rw [dc_f (fun q=>h1 q.2.1)]
      go_enter Tryz.func95,Tryz.ntmps95
      go_wp2_with ((go_at_call 99;first | refine (sp_in_t (by omega) _).mono ?_ | refine (sp_in_f (by omega) _).mono ?_);rintro e w1 ⟨rfl,rfl⟩)
      go_ret
      exact ⟨rfl,kb_alloc2 _ _ _ _⟩
    skip
    by_cases h2 : 0 ≤ g ∧ g ≤ 250
    rotate_left
    · rw [dc_f (fun q=>h2 q.2.2.1)]
      go_enter Tryz.func95,Tryz.ntmps95
      go_wp2_with ((go_at_call 99;first | refine (sp_in_t (by omega) _).mono ?_ | refine (sp_in_f (by omega) _).mono ?_);rintro e w1 ⟨rfl,rfl⟩)
      go_ret
      exact ⟨rfl,kb_alloc2 _ _ _ _⟩
    skip
    by_cases h3 : 0 ≤ m ∧ m ≤ g
    rotate_left
    · rw [dc_f (fun q=>h3 q.2.2.2.1)]
      go_enter Tryz.func95,Tryz.ntmps95
      go_wp2_with ((go_at_call 99;first | refine (sp_in_t (by omega) _).mono ?_ | refine (sp_in_f (by omega) _).mono ?_);rintro e w1 ⟨rfl,rfl⟩)
      go_ret
      exact ⟨rfl,kb_alloc2 _ _ _ _⟩
    skip
    by_cases h4 : u ≤ 250
    rotate_left
    · have g4 : ¬ (u : Int) ≤ 250:=by omega
      rw [dc_f (fun q=>h4 q.2.2.2.2.1)]
      go_enter Tryz.func95,Tryz.ntmps95
      go_wp2_with ((go_at_call 99;first | refine (sp_in_t (by omega) _).mono ?_ | refine (sp_in_f (by omega) _).mono ?_);rintro e w1 ⟨rfl,rfl⟩)
      go_ret
      exact ⟨rfl,kb_alloc2 _ _ _ _⟩
    have g4 : (u : Int) ≤ 250:=by omega
    by_cases h5 : c ≤ 500
    rotate_left
    · have g5 : ¬ (c : Int) ≤ 500:=by omega
      rw [dc_f (fun q=>h5 q.2.2.2.2.2.1)]
      go_enter Tryz.func95,Tryz.ntmps95
      go_wp2_with ((go_at_call 99;first | refine (sp_in_t (by omega) _).mono ?_ | refine (sp_in_f (by omega) _).mono ?_);rintro e w1 ⟨rfl,rfl⟩)
      go_ret
      exact ⟨rfl,kb_alloc2 _ _ _ _⟩
    have g5 : (c : Int) ≤ 500:=by omega
    skip
    by_cases h6 : 0 < p
    · have g6 : (0 : Int) < (p : Int):=by omega
      rw [dc_t ⟨h0,h1,h2,h3,h4,h5,Or.inl h6⟩]
      go_enter Tryz.func95,Tryz.ntmps95
      go_wp2_with ((go_at_call 99;first | refine (sp_in_t (by omega) _).mono ?_ | refine (sp_in_f (by omega) _).mono ?_);rintro e w1 ⟨rfl,rfl⟩)
      go_ret
      exact ⟨rfl,kb_alloc2 _ _ _ _⟩
    have g6 : ¬ (0 : Int) < (p : Int):=by omega
    by_cases h7 : m = 0
    rotate_left
    · have g7 : (m == 0) = false:=bne h7
      rw [dc_f (fun q=>q.2.2.2.2.2.2.elim h6 (fun q=>h7 q.1))]
      go_enter Tryz.func95,Tryz.ntmps95
      go_wp2_with ((go_at_call 99;first | refine (sp_in_t (by omega) _).mono ?_ | refine (sp_in_f (by omega) _).mono ?_);rintro e w1 ⟨rfl,rfl⟩)
      go_ret
      exact ⟨rfl,kb_alloc2 _ _ _ _⟩
    subst h7
    by_cases h8 : u = 0
    rotate_left
    · have g8 : ((u : Int) == 0) = false:=bne (by omega)
      rw [dc_f (fun q=>q.2.2.2.2.2.2.elim h6 (fun q=>h8 q.2))]
      go_enter Tryz.func95,Tryz.ntmps95
      go_wp2_with ((go_at_call 99;first | refine (sp_in_t (by omega) _).mono ?_ | refine (sp_in_f (by omega) _).mono ?_);rintro e w1 ⟨rfl,rfl⟩)
      go_ret
      exact ⟨rfl,kb_alloc2 _ _ _ _⟩
    have g8 : ((u : Int) == 0) = true:=beq1 (by omega)
    rw [dc_t ⟨h0,h1,h2,h3,h4,h5,Or.inr ⟨rfl,h8⟩⟩]
    go_enter Tryz.func95,Tryz.ntmps95
    go_wp2_with ((go_at_call 99;first | refine (sp_in_t (by omega) _).mono ?_ | refine (sp_in_f (by omega) _).mono ?_);rintro e w1 ⟨rfl,rfl⟩)
    go_ret
    exact ⟨rfl,kb_alloc2 _ _ _ _⟩
  | true =>
    rw [if_pos rfl]
    by_cases hgm : g = -9223372036854775808
    · subst hgm
      have h2 : ¬ (0 ≤ (-9223372036854775808 : Int) ∧ (-9223372036854775808 : Int) ≤ 250):=by omega
      rw [dc_f (fun q=>h2 q.2.2.1)]
      by_cases h0 : x.size ≤ 40
      · have g0 : (x.size : Int) ≤ 40:=by omega
        by_cases h1 : 0 ≤ l ∧ l ≤ 100000
        · go_enter Tryz.func95,Tryz.ntmps95
          go_wp2_with ((go_at_call 99;first | refine (sp_in_t (by omega) _).mono ?_ | refine (sp_in_f (by omega) _).mono ?_);rintro e w1 ⟨rfl,rfl⟩)
          go_ret
          exact ⟨rfl,kb_alloc2 _ _ _ _⟩
        · go_enter Tryz.func95,Tryz.ntmps95
          go_wp2_with ((go_at_call 99;first | refine (sp_in_t (by omega) _).mono ?_ | refine (sp_in_f (by omega) _).mono ?_);rintro e w1 ⟨rfl,rfl⟩)
          go_ret
          exact ⟨rfl,kb_alloc2 _ _ _ _⟩
      · have g0 : ¬ (x.size : Int) ≤ 40:=by omega
        go_enter Tryz.func95,Tryz.ntmps95
        go_wp2_with ((go_at_call 99;first | refine (sp_in_t (by omega) _).mono ?_ | refine (sp_in_f (by omega) _).mono ?_);rintro e w1 ⟨rfl,rfl⟩)
        go_ret
        exact ⟨rfl,kb_alloc2 _ _ _ _⟩
    have hg1 : -9223372036854775807 ≤ g:=by omega
    by_cases h0 : x.size ≤ 40
    rotate_left
    · have g0 : ¬ (x.size : Int) ≤ 40:=by omega
      rw [dc_f (fun q=>h0 q.1)]
      go_enter Tryz.func95,Tryz.ntmps95
      go_wp2_with ((go_at_call 99;first | refine (sp_in_t (by omega) _).mono ?_ | refine (sp_in_f (by omega) _).mono ?_);rintro e w1 ⟨rfl,rfl⟩)
      go_ret
      exact ⟨rfl,kb_alloc2 _ _ _ _⟩
    have g0 : (x.size : Int) ≤ 40:=by omega
    by_cases h1 : 0 ≤ l ∧ l ≤ 100000
    rotate_left
    · rw [dc_f (fun q=>h1 q.2.1)]
      go_enter Tryz.func95,Tryz.ntmps95
      go_wp2_with ((go_at_call 99;first | refine (sp_in_t (by omega) _).mono ?_ | refine (sp_in_f (by omega) _).mono ?_);rintro e w1 ⟨rfl,rfl⟩)
      go_ret
      exact ⟨rfl,kb_alloc2 _ _ _ _⟩
    skip
    by_cases h2 : 0 ≤ g ∧ g ≤ 250
    rotate_left
    · rw [dc_f (fun q=>h2 q.2.2.1)]
      go_enter Tryz.func95,Tryz.ntmps95
      go_wp2_with ((go_at_call 99;first | refine (sp_in_t (by omega) _).mono ?_ | refine (sp_in_f (by omega) _).mono ?_);rintro e w1 ⟨rfl,rfl⟩)
      go_ret
      exact ⟨rfl,kb_alloc2 _ _ _ _⟩
    skip
    by_cases h3 : 0 ≤ m ∧ m ≤ g - 1
    rotate_left
    · rw [dc_f (fun q=>h3 q.2.2.2.1)]
      go_enter Tryz.func95,Tryz.ntmps95
      go_wp2_with ((go_at_call 99;first | refine (sp_in_t (by omega) _).mono ?_ | refine (sp_in_f (by omega) _).mono ?_);rintro e w1 ⟨rfl,rfl⟩)
      go_ret
      exact ⟨rfl,kb_alloc2 _ _ _ _⟩
    skip
    by_cases h4 : u ≤ 250
    rotate_left
    · have g4 : ¬ (u : Int) ≤ 250:=by omega
      rw [dc_f (fun q=>h4 q.2.2.2.2.1)]
      go_enter Tryz.func95,Tryz.ntmps95
      go_wp2_with ((go_at_call 99;first | refine (sp_in_t (by omega) _).mono ?_ | refine (sp_in_f (by omega) _).mono ?_);rintro e w1 ⟨rfl,rfl⟩)
      go_ret
      exact ⟨rfl,kb_alloc2 _ _ _ _⟩
    have g4 : (u : Int) ≤ 250:=by omega
    by_cases h5 : c ≤ 500
    rotate_left
    · have g5 : ¬ (c : Int) ≤ 500:=by omega
      rw [dc_f (fun q=>h5 q.2.2.2.2.2.1)]
      go_enter Tryz.func95,Tryz.ntmps95
      go_wp2_with ((go_at_call 99;first | refine (sp_in_t (by omega) _).mono ?_ | refine (sp_in_f (by omega) _).mono ?_);rintro e w1 ⟨rfl,rfl⟩)
      go_ret
      exact ⟨rfl,kb_alloc2 _ _ _ _⟩
    have g5 : (c : Int) ≤ 500:=by omega
    skip
    by_cases h6 : 0 < p
    · have g6 : (0 : Int) < (p : Int):=by omega
      rw [dc_t ⟨h0,h1,h2,h3,h4,h5,Or.inl h6⟩]
      go_enter Tryz.func95,Tryz.ntmps95
      go_wp2_with ((go_at_call 99;first | refine (sp_in_t (by omega) _).mono ?_ | refine (sp_in_f (by omega) _).mono ?_);rintro e w1 ⟨rfl,rfl⟩)
      go_ret
      exact ⟨rfl,kb_alloc2 _ _ _ _⟩
    have g6 : ¬ (0 : Int) < (p : Int):=by omega
    by_cases h7 : m = 0
    rotate_left
    · have g7 : (m == 0) = false:=bne h7
      rw [dc_f (fun q=>q.2.2.2.2.2.2.elim h6 (fun q=>h7 q.1))]
      go_enter Tryz.func95,Tryz.ntmps95
      go_wp2_with ((go_at_call 99;first | refine (sp_in_t (by omega) _).mono ?_ | refine (sp_in_f (by omega) _).mono ?_);rintro e w1 ⟨rfl,rfl⟩)
      go_ret
      exact ⟨rfl,kb_alloc2 _ _ _ _⟩
    subst h7
    by_cases h8 : u = 0
    rotate_left
    · have g8 : ((u : Int) == 0) = false:=bne (by omega)
      rw [dc_f (fun q=>q.2.2.2.2.2.2.elim h6 (fun q=>h8 q.2))]
      go_enter Tryz.func95,Tryz.ntmps95
      go_wp2_with ((go_at_call 99;first | refine (sp_in_t (by omega) _).mono ?_ | refine (sp_in_f (by omega) _).mono ?_);rintro e w1 ⟨rfl,rfl⟩)
      go_ret
      exact ⟨rfl,kb_alloc2 _ _ _ _⟩
    have g8 : ((u : Int) == 0) = true:=beq1 (by omega)
    rw [dc_t ⟨h0,h1,h2,h3,h4,h5,Or.inr ⟨rfl,h8⟩⟩]
    go_enter Tryz.func95,Tryz.ntmps95
    go_wp2_with ((go_at_call 99;first | refine (sp_in_t (by omega) _).mono ?_ | refine (sp_in_f (by omega) _).mono ?_);rintro e w1 ⟨rfl,rfl⟩)
    go_ret
    exact ⟨rfl,kb_alloc2 _ _ _ _⟩
end Go.Proofs.YtnmeemjoodoalaaGreatDoor.Fo
