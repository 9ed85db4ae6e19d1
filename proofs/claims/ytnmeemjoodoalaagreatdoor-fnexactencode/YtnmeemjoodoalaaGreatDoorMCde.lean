import Derived.Test.YtnmeemjoodoalaaGreatDoorMCdd
import Derived.Test.YtnmeemjoodoalaaGreatDoorMCdb
set_option maxHeartbeats 32000000
namespace Go.Proofs.YtnmeemjoodoalaaGreatDoor.Fo
open Go.ChangeShapes Go.WideShapes Go.ChangeAt Go.RowKit
set_option linter.unusedVariables false
set_option maxRecDepth 100000
theorem str0 {x : ByteArray} (h : x = ⟨#[]⟩) : x.toList = []:=by rw [Lib.toList_data,h]
theorem str1 {x : ByteArray} (h : ¬ x = ⟨#[]⟩) : ¬ x.toList = []:=by
  rw [Lib.toList_data]
  intro e
  exact h (by apply ByteArray.ext;exact Array.toList_inj.1 (by simpa using e))
theorem im_wnamed {A : Addr} {np ca p B : Nat} {d : Pd} {pu pc pn pm : Option Addr} {cu cc cn cm : Nat} (w : World) (hp : p < np) (hnp : np ≤ 1048576) (hb : w.cell? ⟨B, 0, none⟩ = some (.slice (some A) np ca)) (hcel : CelP w (A.add (p * 9)) d (.slice pu d.u cu) (.slice pc d.c cc) (.slice pn d.n cn) (.slice pm d.d cm))
    (hrow : RowM 0 w (.slice pm d.d cm) d.d d.D) (hd : d.d ≤ 1048576) (hn : d.n ≤ 1048576) (hg : 0 ≤ d.g ∧ d.g ≤ 250) :
    Calls Tryz.prog 48 #[.pointer (some ⟨B,0,none⟩),.int .i64 (p : Int)] w fun e w'=>∃ r : Int,e = .returned (.int .i64 r) ∧ Fb (Nok d) d.d r ∧ Kb 0 w w':=by
  obtain ⟨d0,d1,d2,d3,d4,d5,d6,d7,d8⟩:=hcel
  have hpI : (p : Int) < (np : Int):=by omega
  have hnpI : (np : Int) ≤ 1048576:=by omega
  have hdI : (d.d : Int) ≤ 1048576:=by omega
  have hnI : (d.n : Int) ≤ 1048576:=by omega
  obtain ⟨w1,hw1⟩ : ∃ w1,w1 = w.alloc (.cells #[.string d.x,.int .i64 d.l,.int .i64 d.m,.bool d.r,.int .i64 d.g,.slice pu d.u cu,.slice pc d.c cc,.slice pn d.n cn,.slice pm d.d cm] 50):=⟨_,rfl⟩
  have k1 : Kb 0 w w1:=by rw [hw1];exact kb_alloc _ _ _
  have HB : Hid (w1.cell? ⟨w.heap.size,4,none⟩ = some (.int .i64 d.g) ∧ w1.cell? ⟨w.heap.size,7,none⟩ = some (.slice pn d.n cn) ∧ w.heap.size < w1.heap.size ∧ Kb 0 w w1 ∧ RowM 0 w1 (.slice pm d.d cm) d.d d.D):=by
    refine (show _ ∧ _ ∧ _ ∧ _ ∧ _ from ⟨?_,?_,?_,k1,hrow.keep k1⟩)
    · rw [hw1];exact cell_of (alloc_new w _ _) rfl
    · rw [hw1];exact cell_of (alloc_new w _ _) rfl
    · rw [hw1];simp
  have HW : Hid (w1 = w.alloc (.cells #[.string d.x,.int .i64 d.l,.int .i64 d.m,.bool d.r,.int .i64 d.g,.slice pu d.u cu,.slice pc d.c cc,.slice pn d.n cn,.slice pm d.d cm] 50)):=hw1
  clear hp hnp hd hn hrow k1 hw1
  go_enter Tryz.func48,Tryz.ntmps48
  go_wp2_with fail
  rw [← (show w1 = _ from HW)]
  clear d0 d1 d2 d3 d4 d5 d6 d7 d8 hb HW
  go_loopw [19] (fun s19 wr=>∃ i : Nat,s19 = .int .i64 (i : Int) ∧ i ≤ d.d ∧ Hid (Kb 0 w1 wr ∧ ∀ y,y < i → Nok d y)) (fun s19 _=>d.d - (intOf s19).toNat)
  case atStart=>exact ⟨0,rfl,Nat.zero_le _,(⟨Kb.refl _ _,fun y h=>by omega⟩ : _ ∧ _)⟩
  case round =>
    obtain ⟨i,rfl,hi,HX⟩:=hrel
    obtain ⟨kw,hX⟩:=(show Kb 0 w1 wr ∧ ∀ y,y < i → Nok d y from HX)
    obtain ⟨b4,b7,bs,k1,hrow⟩:=(show w1.cell? ⟨w.heap.size,4,none⟩ = some (.int .i64 d.g) ∧ w1.cell? ⟨w.heap.size,7,none⟩ = some (.slice pn d.n cn) ∧ w.heap.size < w1.heap.size ∧ Kb 0 w w1 ∧ RowM 0 w1 (.slice pm d.d cm) d.d d.D from HB)
    rcases Nat.lt_or_ge i d.d with h | h
    · have hI : (i : Int) < (d.d : Int):=by omega
      obtain ⟨pm',cm',e1,hrow2⟩:=hrow
      obtain ⟨rfl,-,rfl⟩ : pm = pm' ∧ d.d = d.d ∧ cm = cm':=by simpa using e1
      obtain ⟨b,rfl,hcb,-,hrb⟩:=hrow2 (by omega)
      obtain ⟨q0,q1,q2,q3⟩:=(hrb i h).keep (Nat.zero_le _) kw
      have o4 : ∀ o,(wr.alloc o).cell? ⟨w.heap.size,4,none⟩ = some (.int .i64 d.g):=fun o=>(kw.alloc o).cell b4
      have o7 : ∀ o,(wr.alloc o).cell? ⟨w.heap.size,7,none⟩ = some (.slice pn d.n cn):=fun o=>(kw.alloc o).cell b7
      have HXT : Hid (Nok d i → ∀ o,Kb 0 w1 (wr.alloc o) ∧ ∀ y,y < i + 1 → Nok d y):=(fun c o=>⟨kw.alloc o,fun y h2=>by
        by_cases e : y = i
        · subst e;exact c
        · exact hX y (by omega)⟩ : Nok d i → ∀ o,_)
      have HXF : Hid (¬ Nok d i → ∀ o,Fb (Nok d) d.d (i : Int) ∧ Kb 0 w (wr.alloc o)):=(fun c o=>⟨Or.inr ⟨i,rfl,h,c,hX⟩,(k1.trans kw).alloc o⟩ : ¬ Nok d i → ∀ o,_)
      clear HX hX kw hrow2 hrb e1 HB b4 b7 bs k1
      have hN : Nok d i ↔ i < 500 ∧ (1 ≤ (d.D i).x.size ∧ (d.D i).x.size ≤ 40) ∧ (0 ≤ (d.D i).g ∧ (d.D i).g ≤ d.g - 1) ∧ 0 ≤ (d.D i).f ∧ (d.D i).f ≤ (d.D i).t ∧ (d.D i).t ≤ (d.n : Int):=Iff.rfl
      generalize hQ : Nok d i = Q at *
      generalize d.D i = a at *
      obtain ⟨x,g,f,t⟩:=a
      dsimp only at *
      by_cases h0 : i < 500
      rotate_left
      · have g0 : ¬ (i : Int) < 500:=by omega
        have HXE:=(show ¬ Q → ∀ o,_ from HXF) (fun q=>h0 (hN.1 q).1)
        clear HXF HXT hN hQ
        go_wp2_with fail
        go_ret
        exact ⟨_,rfl,(HXE (.cells #[] 0)).1,(HXE _).2⟩
      have g0 : (i : Int) < 500:=by omega
      by_cases h1 : x ≠ ⟨#[]⟩
      rotate_left
      · have h1:=Classical.not_not.1 h1
        have g1 : x.toList.isEmpty = true:=by rw [str0 h1];rfl
        have h1z:=sz_emp.1 h1
        clear h1
        have HXE:=(show ¬ Q → ∀ o,_ from HXF) (fun q=>(by have:=(hN.1 q).2.1.1;omega))
        clear HXF HXT hN hQ
        go_wp2_with fail
        go_ret
        exact ⟨_,rfl,(HXE (.cells #[] 0)).1,(HXE _).2⟩
      have g1 : x.toList.isEmpty = false:=by have:=str1 h1;cases hh : x.toList with | nil=>exact absurd hh this | cons _ _=>rfl
      have h1z : x.size ≠ 0:=fun e=>h1 (sz_emp.2 e)
      clear h1
      by_cases h2 : x.size ≤ 40
      rotate_left
      · have g2 : ¬ (x.size : Int) ≤ 40:=by omega
        have HXE:=(show ¬ Q → ∀ o,_ from HXF) (fun q=>h2 (hN.1 q).2.1.2)
        clear HXF HXT hN hQ
        go_wp2_with fail
        go_ret
        exact ⟨_,rfl,(HXE (.cells #[] 0)).1,(HXE _).2⟩
      have g2 : (x.size : Int) ≤ 40:=by omega
      by_cases h3 : 0 ≤ g
      rotate_left
      · have HXE:=(show ¬ Q → ∀ o,_ from HXF) (fun q=>h3 (hN.1 q).2.2.1.1)
        clear HXF HXT hN hQ
        go_wp2_with fail
        go_ret
        exact ⟨_,rfl,(HXE (.cells #[] 0)).1,(HXE _).2⟩
      skip
      by_cases h4 : g < d.g
      rotate_left
      · have HXE:=(show ¬ Q → ∀ o,_ from HXF) (fun q=>(by have:=(hN.1 q).2.2.1.2;omega))
        clear HXF HXT hN hQ
        go_wp2_with fail
        go_ret
        exact ⟨_,rfl,(HXE (.cells #[] 0)).1,(HXE _).2⟩
      skip
      by_cases h5 : 0 ≤ f
      rotate_left
      · have HXE:=(show ¬ Q → ∀ o,_ from HXF) (fun q=>h5 (hN.1 q).2.2.2.1)
        clear HXF HXT hN hQ
        go_wp2_with fail
        go_ret
        exact ⟨_,rfl,(HXE (.cells #[] 0)).1,(HXE _).2⟩
      skip
      by_cases h6 : f ≤ t
      rotate_left
      · have HXE:=(show ¬ Q → ∀ o,_ from HXF) (fun q=>h6 (hN.1 q).2.2.2.2.1)
        clear HXF HXT hN hQ
        go_wp2_with fail
        go_ret
        exact ⟨_,rfl,(HXE (.cells #[] 0)).1,(HXE _).2⟩
      skip
      by_cases h7 : t ≤ (d.n : Int)
      rotate_left
      · have g7 : decide (t ≤ (d.n : Int)) = false:=decide_eq_false h7
        have HXE:=(show ¬ Q → ∀ o,_ from HXF) (fun q=>h7 (hN.1 q).2.2.2.2.2)
        clear HXF HXT hN hQ
        go_wp2_with fail
        go_ret
        exact ⟨_,rfl,(HXE (.cells #[] 0)).1,(HXE _).2⟩
      have g7 : decide (t ≤ (d.n : Int)) = true:=decide_eq_true h7
      have HXE:=(show Q → ∀ o,_ from HXT) (hN.2 ⟨h0,⟨by omega,h2⟩,⟨h3,by omega⟩,h5,h6,h7⟩)
      clear HXF HXT hN hQ
      go_wp2_with fail
      go_roundw
      case rel=>exact ⟨i + 1,by go_num,by omega,HXE _⟩
      case measure=>simp [intOf];omega
    · have hI : ¬ (i : Int) < (d.d : Int):=by omega
      have HX3 : Hid (Fb (Nok d) d.d (-1) ∧ Kb 0 w wr):=(⟨Or.inl ⟨rfl,fun y hy=>hX y (by omega)⟩,k1.trans kw⟩ : _ ∧ _)
      clear HX hX kw HB b4 b7 bs k1 hrow
      go_wp2_with fail
      go_ret
      exact ⟨_,rfl,HX3.1,HX3.2⟩
end Go.Proofs.YtnmeemjoodoalaaGreatDoor.Fo
