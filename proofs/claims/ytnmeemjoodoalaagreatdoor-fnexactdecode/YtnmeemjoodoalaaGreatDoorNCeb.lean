import Derived.Test.YtnmeemjoodoalaaGreatDoorNCdb
set_option maxHeartbeats 32000000
namespace Go.Proofs.YtnmeemjoodoalaaGreatDoor.Fo
open Go.ChangeShapes Go.WideShapes Go.ChangeAt Go.RowKit
set_option linter.unusedVariables false
set_option maxRecDepth 100000
theorem im_whead {A : Addr} {np ca p B : Nat} {d : Pd} {pu pc pn pm : Option Addr} {cu cc cn cm : Nat} (w : World) (hp : p < np) (hnp : np ≤ 1048576) (hb : w.cell? ⟨B, 0, none⟩ = some (.slice (some A) np ca)) (hcel : CelP w (A.add (p * 9)) d (.slice pu d.u cu) (.slice pc d.c cc) (.slice pn d.n cn) (.slice pm d.d cm)) (hu : d.u ≤ 1048576) (hc : d.c ≤ 1048576) (hg : -9223372036854775808 ≤ d.g) :
    Calls Tryz.prog 46 #[.pointer (some ⟨B,0,none⟩),.int .i64 (p : Int)] w fun e w'=>∃ r : Int,e = .returned (.int .i64 r) ∧ Fb (fun _=>Hd p d) 1 r ∧ Kb 0 w w':=by
  obtain ⟨d0,d1,d2,d3,d4,d5,d6,d7,d8⟩:=hcel
  have HT : Hd p d → Fb (fun _=>Hd p d) 1 (-1):=fun h=>.inl ⟨rfl,fun _ _=>h⟩
  have HF : ¬ Hd p d → Fb (fun _=>Hd p d) 1 0:=fun h=>.inr ⟨0,rfl,by omega,h,fun i hi=>by omega⟩
  have hN : Hd p d ↔ d.x.size ≤ 40 ∧ (0 ≤ d.l ∧ d.l ≤ 100000) ∧ (0 ≤ d.g ∧ d.g ≤ 250) ∧ (0 ≤ d.m ∧ d.m ≤ (if d.r = true then d.g - 1 else d.g)) ∧ d.u ≤ 250 ∧ d.c ≤ 500 ∧ (0 < p ∨ (d.m = 0 ∧ d.u = 0)):=Iff.rfl
  generalize Hd p d = Q at *
  obtain ⟨x,l,m,r,g,u,U,c,C,n,N,dd,D⟩:=d
  dsimp only at *
  have hpI : (p : Int) < (np : Int):=by omega
  have hnpI : (np : Int) ≤ 1048576:=by omega
  have huI : (u : Int) ≤ 1048576:=by omega
  have hcI : (c : Int) ≤ 1048576:=by omega
  clear hp hnp hu hc
  have hgw : IntKind.i64.wrap (-9223372036854775808 - 1) = 9223372036854775807:=by decide
  cases r with
  | false =>
    rw [if_neg (by decide)] at hN
    by_cases h0 : x.size ≤ 40
    rotate_left
    · have g0 : ¬ (x.size : Int) ≤ 40:=by omega
      have HX:=HF (fun q=>h0 (hN.1 q).1)
      clear HT HF hN
      go_enter Tryz.func46,Tryz.ntmps46
      go_wp2_with fail
      go_ret
      exact ⟨_,rfl,HX,kb_alloc _ _ _⟩
    have g0 : (x.size : Int) ≤ 40:=by omega
    by_cases h1 : 0 ≤ l
    rotate_left
    · have HX:=HF (fun q=>h1 (hN.1 q).2.1.1)
      clear HT HF hN
      go_enter Tryz.func46,Tryz.ntmps46
      go_wp2_with fail
      go_ret
      exact ⟨_,rfl,HX,kb_alloc _ _ _⟩
    skip
    by_cases h2 : l ≤ 100000
    rotate_left
    · have HX:=HF (fun q=>h2 (hN.1 q).2.1.2)
      clear HT HF hN
      go_enter Tryz.func46,Tryz.ntmps46
      go_wp2_with fail
      go_ret
      exact ⟨_,rfl,HX,kb_alloc _ _ _⟩
    skip
    by_cases h3 : 0 ≤ g
    rotate_left
    · have HX:=HF (fun q=>h3 (hN.1 q).2.2.1.1)
      clear HT HF hN
      go_enter Tryz.func46,Tryz.ntmps46
      go_wp2_with fail
      go_ret
      exact ⟨_,rfl,HX,kb_alloc _ _ _⟩
    skip
    by_cases h4 : g ≤ 250
    rotate_left
    · have HX:=HF (fun q=>h4 (hN.1 q).2.2.1.2)
      clear HT HF hN
      go_enter Tryz.func46,Tryz.ntmps46
      go_wp2_with fail
      go_ret
      exact ⟨_,rfl,HX,kb_alloc _ _ _⟩
    skip
    by_cases h5 : 0 ≤ m
    rotate_left
    · have HX:=HF (fun q=>h5 (hN.1 q).2.2.2.1.1)
      clear HT HF hN
      go_enter Tryz.func46,Tryz.ntmps46
      go_wp2_with fail
      go_ret
      exact ⟨_,rfl,HX,kb_alloc _ _ _⟩
    skip
    by_cases h6 : m ≤ g
    rotate_left
    · have HX:=HF (fun q=>h6 (hN.1 q).2.2.2.1.2)
      clear HT HF hN
      go_enter Tryz.func46,Tryz.ntmps46
      go_wp2_with fail
      go_ret
      exact ⟨_,rfl,HX,kb_alloc _ _ _⟩
    skip
    by_cases h7 : u ≤ 250
    rotate_left
    · have g7 : ¬ (u : Int) ≤ 250:=by omega
      have HX:=HF (fun q=>h7 (hN.1 q).2.2.2.2.1)
      clear HT HF hN
      go_enter Tryz.func46,Tryz.ntmps46
      go_wp2_with fail
      go_ret
      exact ⟨_,rfl,HX,kb_alloc _ _ _⟩
    have g7 : (u : Int) ≤ 250:=by omega
    by_cases h8 : c ≤ 500
    rotate_left
    · have g8 : ¬ (c : Int) ≤ 500:=by omega
      have HX:=HF (fun q=>h8 (hN.1 q).2.2.2.2.2.1)
      clear HT HF hN
      go_enter Tryz.func46,Tryz.ntmps46
      go_wp2_with fail
      go_ret
      exact ⟨_,rfl,HX,kb_alloc _ _ _⟩
    have g8 : (c : Int) ≤ 500:=by omega
    skip
    by_cases h9 : 0 < p
    · have g9 : (0 : Int) < (p : Int):=by omega
      have HX:=HT (hN.2 ⟨h0,⟨h1,h2⟩,⟨h3,h4⟩,⟨h5,h6⟩,h7,h8,Or.inl h9⟩)
      clear HT HF hN
      go_enter Tryz.func46,Tryz.ntmps46
      go_wp2_with fail
      go_ret
      exact ⟨_,rfl,HX,kb_alloc _ _ _⟩
    have g9 : ¬ (0 : Int) < (p : Int):=by omega
    by_cases ha : m = 0
    rotate_left
    · have ga : (m == 0) = false:=bne ha
      have HX:=HF (fun q=>(hN.1 q).2.2.2.2.2.2.elim h9 (fun q=>ha q.1))
      clear HT HF hN
      go_enter Tryz.func46,Tryz.ntmps46
      go_wp2_with fail
      go_ret
      exact ⟨_,rfl,HX,kb_alloc _ _ _⟩
    subst ha
    by_cases hb2 : u = 0
    rotate_left
    · have gb : ((u : Int) == 0) = false:=bne (by omega)
      have HX:=HF (fun q=>(hN.1 q).2.2.2.2.2.2.elim h9 (fun q=>hb2 q.2))
      clear HT HF hN
      go_enter Tryz.func46,Tryz.ntmps46
      go_wp2_with fail
      go_ret
      exact ⟨_,rfl,HX,kb_alloc _ _ _⟩
    have gb : ((u : Int) == 0) = true:=beq1 (by omega)
    have HX:=HT (hN.2 ⟨h0,⟨h1,h2⟩,⟨h3,h4⟩,⟨h5,h6⟩,h7,h8,Or.inr ⟨rfl,hb2⟩⟩)
    clear HT HF hN
    go_enter Tryz.func46,Tryz.ntmps46
    go_wp2_with fail
    go_ret
    exact ⟨_,rfl,HX,kb_alloc _ _ _⟩
  | true =>
    rw [if_pos rfl] at hN
    by_cases hgm : g = -9223372036854775808
    · subst hgm
      have HX:=HF (fun q=>by have:=(hN.1 q).2.2.1.1;omega)
      clear HT HF hN
      by_cases h0 : x.size ≤ 40
      · have g0 : (x.size : Int) ≤ 40:=by omega
        by_cases h1 : 0 ≤ l
        · by_cases h2 : l ≤ 100000
          all_goals
            go_enter Tryz.func46,Tryz.ntmps46
            go_wp2_with fail
            go_ret
            exact ⟨_,rfl,HX,kb_alloc _ _ _⟩
        · go_enter Tryz.func46,Tryz.ntmps46
          go_wp2_with fail
          go_ret
          exact ⟨_,rfl,HX,kb_alloc _ _ _⟩
      · have g0 : ¬ (x.size : Int) ≤ 40:=by omega
        go_enter Tryz.func46,Tryz.ntmps46
        go_wp2_with fail
        go_ret
        exact ⟨_,rfl,HX,kb_alloc _ _ _⟩
    have hg1 : -9223372036854775807 ≤ g:=by omega
    by_cases h0 : x.size ≤ 40
    rotate_left
    · have g0 : ¬ (x.size : Int) ≤ 40:=by omega
      have HX:=HF (fun q=>h0 (hN.1 q).1)
      clear HT HF hN
      go_enter Tryz.func46,Tryz.ntmps46
      go_wp2_with fail
      go_ret
      exact ⟨_,rfl,HX,kb_alloc _ _ _⟩
    have g0 : (x.size : Int) ≤ 40:=by omega
    by_cases h1 : 0 ≤ l
    rotate_left
    · have HX:=HF (fun q=>h1 (hN.1 q).2.1.1)
      clear HT HF hN
      go_enter Tryz.func46,Tryz.ntmps46
      go_wp2_with fail
      go_ret
      exact ⟨_,rfl,HX,kb_alloc _ _ _⟩
    skip
    by_cases h2 : l ≤ 100000
    rotate_left
    · have HX:=HF (fun q=>h2 (hN.1 q).2.1.2)
      clear HT HF hN
      go_enter Tryz.func46,Tryz.ntmps46
      go_wp2_with fail
      go_ret
      exact ⟨_,rfl,HX,kb_alloc _ _ _⟩
    skip
    by_cases h3 : 0 ≤ g
    rotate_left
    · have HX:=HF (fun q=>h3 (hN.1 q).2.2.1.1)
      clear HT HF hN
      go_enter Tryz.func46,Tryz.ntmps46
      go_wp2_with fail
      go_ret
      exact ⟨_,rfl,HX,kb_alloc _ _ _⟩
    skip
    by_cases h4 : g ≤ 250
    rotate_left
    · have HX:=HF (fun q=>h4 (hN.1 q).2.2.1.2)
      clear HT HF hN
      go_enter Tryz.func46,Tryz.ntmps46
      go_wp2_with fail
      go_ret
      exact ⟨_,rfl,HX,kb_alloc _ _ _⟩
    skip
    by_cases h5 : 0 ≤ m
    rotate_left
    · have HX:=HF (fun q=>h5 (hN.1 q).2.2.2.1.1)
      clear HT HF hN
      go_enter Tryz.func46,Tryz.ntmps46
      go_wp2_with fail
      go_ret
      exact ⟨_,rfl,HX,kb_alloc _ _ _⟩
    skip
    by_cases h6 : m ≤ g - 1
    rotate_left
    · have HX:=HF (fun q=>h6 (hN.1 q).2.2.2.1.2)
      clear HT HF hN
      go_enter Tryz.func46,Tryz.ntmps46
      go_wp2_with fail
      go_ret
      exact ⟨_,rfl,HX,kb_alloc _ _ _⟩
    skip
    by_cases h7 : u ≤ 250
    rotate_left
    · have g7 : ¬ (u : Int) ≤ 250:=by omega
      have HX:=HF (fun q=>h7 (hN.1 q).2.2.2.2.1)
      clear HT HF hN
      go_enter Tryz.func46,Tryz.ntmps46
      go_wp2_with fail
      go_ret
      exact ⟨_,rfl,HX,kb_alloc _ _ _⟩
    have g7 : (u : Int) ≤ 250:=by omega
    by_cases h8 : c ≤ 500
    rotate_left
    · have g8 : ¬ (c : Int) ≤ 500:=by omega
      have HX:=HF (fun q=>h8 (hN.1 q).2.2.2.2.2.1)
      clear HT HF hN
      go_enter Tryz.func46,Tryz.ntmps46
      go_wp2_with fail
      go_ret
      exact ⟨_,rfl,HX,kb_alloc _ _ _⟩
    have g8 : (c : Int) ≤ 500:=by omega
    skip
    by_cases h9 : 0 < p
    · have g9 : (0 : Int) < (p : Int):=by omega
      have HX:=HT (hN.2 ⟨h0,⟨h1,h2⟩,⟨h3,h4⟩,⟨h5,h6⟩,h7,h8,Or.inl h9⟩)
      clear HT HF hN
      go_enter Tryz.func46,Tryz.ntmps46
      go_wp2_with fail
      go_ret
      exact ⟨_,rfl,HX,kb_alloc _ _ _⟩
    have g9 : ¬ (0 : Int) < (p : Int):=by omega
    by_cases ha : m = 0
    rotate_left
    · have ga : (m == 0) = false:=bne ha
      have HX:=HF (fun q=>(hN.1 q).2.2.2.2.2.2.elim h9 (fun q=>ha q.1))
      clear HT HF hN
      go_enter Tryz.func46,Tryz.ntmps46
      go_wp2_with fail
      go_ret
      exact ⟨_,rfl,HX,kb_alloc _ _ _⟩
    subst ha
    by_cases hb2 : u = 0
    rotate_left
    · have gb : ((u : Int) == 0) = false:=bne (by omega)
      have HX:=HF (fun q=>(hN.1 q).2.2.2.2.2.2.elim h9 (fun q=>hb2 q.2))
      clear HT HF hN
      go_enter Tryz.func46,Tryz.ntmps46
      go_wp2_with fail
      go_ret
      exact ⟨_,rfl,HX,kb_alloc _ _ _⟩
    have gb : ((u : Int) == 0) = true:=beq1 (by omega)
    have HX:=HT (hN.2 ⟨h0,⟨h1,h2⟩,⟨h3,h4⟩,⟨h5,h6⟩,h7,h8,Or.inr ⟨rfl,hb2⟩⟩)
    clear HT HF hN
    go_enter Tryz.func46,Tryz.ntmps46
    go_wp2_with fail
    go_ret
    exact ⟨_,rfl,HX,kb_alloc _ _ _⟩
end Go.Proofs.YtnmeemjoodoalaaGreatDoor.Fo
