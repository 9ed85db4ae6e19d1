import Derived.Test.YtnmeemjoodoalaaGreatDoorMCbf
set_option maxHeartbeats 8000000
namespace Go.Proofs.YtnmeemjoodoalaaGreatDoor.Fo
open Go.ChangeShapes Go.WideShapes Go.ChangeAt Go.RowKit
set_option linter.unusedVariables false
set_option maxRecDepth 100000
theorem eq_ups {va vb : Value} {n : Nat} {U : Nat → Bool × Int} (w : World) (ha : RowU 0 w va n U) (hb : RowU 0 w vb n U) (hn : n ≤ 1048576)  :
    Calls Tryz.prog 118 #[va,vb] w fun e w'=>e = .returned (.bool true) ∧ Kb 0 w w':=by
  obtain ⟨pa,ca,rfl,ha2⟩:=ha
  obtain ⟨pb,cb,rfl,hb2⟩:=hb
  have HA : Hid ((0 < n → ∃ a : Addr,pa = some a ∧ n ≤ ca ∧ 0 ≤ a.block ∧ ∀ i,i < n → UpC 0 w (a.add (i * 2)) (U i)) ∧ (0 < n → ∃ a : Addr,pb = some a ∧ n ≤ cb ∧ 0 ≤ a.block ∧ ∀ i,i < n → UpC 0 w (a.add (i * 2)) (U i))):=(⟨ha2,hb2⟩ : _ ∧ _)
  have hnI : (n : Int) ≤ 1048576:=by omega
  clear ha2 hb2 hn
  go_enter Tryz.func118,Tryz.ntmps118
  go_wp2_with fail
  go_loopw [5] (fun s5 wr=>∃ i : Nat,s5 = .int .i64 (i : Int) ∧ i ≤ n ∧ Hid (Kb 0 w wr)) (fun s5 _=>n - (intOf s5).toNat)
  case atStart=>exact ⟨0,rfl,Nat.zero_le _,Kb.refl _ _⟩
  case round =>
    obtain ⟨i,rfl,hin,HB⟩:=hrel
    rcases Nat.lt_or_ge i n with hi | hi
    · have hA:=(show (0 < n → ∃ a : Addr,pa = some a ∧ n ≤ ca ∧ 0 ≤ a.block ∧ ∀ i,i < n → UpC 0 w (a.add (i * 2)) (U i)) ∧ (0 < n → ∃ a : Addr,pb = some a ∧ n ≤ cb ∧ 0 ≤ a.block ∧ ∀ i,i < n → UpC 0 w (a.add (i * 2)) (U i)) from HA)
      obtain ⟨qa,rfl,hca,-,hra⟩:=hA.1 (by omega)
      obtain ⟨qb,rfl,hcb,-,hrb⟩:=hA.2 (by omega)
      have hiI : (i : Int) < (n : Int):=by omega
      have ca:=(hra i hi).keep (Nat.zero_le _) HB
      have cb:=(hrb i hi).keep (Nat.zero_le _) HB
      have heq : ∀ W',Kb 0 wr W' → Calls Tryz.prog 147 #[upv (U i),upv (U i)] W' fun e w'=>e = .returned (.bool true) ∧ Kb 0 W' w':=fun W' _=>eq_up (U i) W'
      replace heq : ∀ W',W'.heap = wr.heap → W'.os = wr.os → W'.output = wr.output → Calls Tryz.prog 147 #[upv (U i),upv (U i)] W' fun e w'=>e = .returned (.bool true) ∧ Kb 0 wr w':=fun W' h0 h1 h2=>by
        have kk : Kb 0 wr W':=⟨h1,h2,by rw [h0];exact Nat.le_refl _,fun k _ _=>by rw [h0]⟩
        refine (heq W' kk).mono ?_
        rintro e w' ⟨rfl,k⟩
        exact ⟨rfl,kk.trans k⟩
      obtain ⟨a0,a1⟩:=ca
      obtain ⟨b0,b1⟩:=cb
      clear hra hrb hA HA
      generalize U i = u at *
      obtain ⟨xb,xz⟩:=u
      unfold upv at heq
      dsimp only at a0 a1 b0 b1 heq
      have HKEEP : Hid (∀ (W' : World),Kb 0 wr W' → W'.cell? (qa.add (i * 2)) = some (.bool xb) ∧ W'.cell? ⟨(qa.add (i * 2)).block,(qa.add (i * 2)).off + 1,none⟩ = some (.int .i64 xz) ∧ W'.cell? (qb.add (i * 2)) = some (.bool xb) ∧ W'.cell? ⟨(qb.add (i * 2)).block,(qb.add (i * 2)).off + 1,none⟩ = some (.int .i64 xz)):=by
        show ∀ (W' : World),_
        intro W' k
        exact ⟨k.cell a0,k.cell a1,k.cell b0,k.cell b1⟩
      have HEQ : Hid (∀ W',W'.heap = wr.heap → W'.os = wr.os → W'.output = wr.output → Calls Tryz.prog 147 #[.agg #[.bool xb,.int .i64 xz],.agg #[.bool xb,.int .i64 xz]] W' fun e w'=>e = .returned (.bool true) ∧ Kb 0 wr w'):=heq
      clear hin heq
      go_wp2_with fail
      go_region_held_law (fun W'=>W'.cell? (qa.add (i * 2)) = some (.bool xb) ∧ W'.cell? ⟨(qa.add (i * 2)).block,(qa.add (i * 2)).off + 1,none⟩ = some (.int .i64 xz) ∧ W'.cell? (qb.add (i * 2)) = some (.bool xb) ∧ W'.cell? ⟨(qb.add (i * 2)).block,(qb.add (i * 2)).off + 1,none⟩ = some (.int .i64 xz)) (first | exact ⟨a0,a1,b0,b1⟩ | exact (show ∀ (W' : World),_ from HKEEP) _ k5)
        ((go_at_call 147;refine ((show ∀ W',W'.heap = wr.heap → W'.os = wr.os → W'.output = wr.output → Calls Tryz.prog 147 #[.agg #[.bool xb,.int .i64 xz],.agg #[.bool xb,.int .i64 xz]] W' fun e w'=>e = .returned (.bool true) ∧ Kb 0 wr w' from HEQ) _ (by exact rfl) (by exact rfl) (by exact rfl)).mono ?_;rintro e w5 ⟨rfl,k5⟩))
      all_goals
        have HB5 : Hid (Kb 0 w w5):=(show Kb 0 w wr from HB).trans k5
        clear HB HKEEP HEQ k5 a0 a1 b0 b1
        go_wp2_with fail
        go_roundw
        case rel=>exact ⟨i + 1,by go_num,by omega,HB5⟩
        case measure=>simp [intOf];omega
    · obtain rfl : i = n:=by omega
      clear HA
      go_wp2_with fail
      go_ret
      exact ⟨rfl,HB⟩
theorem eq_inss {va vb : Value} {n : Nat} {N : Nat → Iv} (w : World) (ha : RowI 0 w va n N) (hb : RowI 0 w vb n N) (hn : n ≤ 1048576)  :
    Calls Tryz.prog 120 #[va,vb] w fun e w'=>e = .returned (.bool true) ∧ Kb 0 w w':=by
  obtain ⟨pa,ca,rfl,ha2⟩:=ha
  obtain ⟨pb,cb,rfl,hb2⟩:=hb
  have HA : Hid ((0 < n → ∃ a : Addr,pa = some a ∧ n ≤ ca ∧ 0 ≤ a.block ∧ ∀ i,i < n → InsC 0 w (a.add (i * 5)) (N i)) ∧ (0 < n → ∃ a : Addr,pb = some a ∧ n ≤ cb ∧ 0 ≤ a.block ∧ ∀ i,i < n → InsC 0 w (a.add (i * 5)) (N i))):=(⟨ha2,hb2⟩ : _ ∧ _)
  have hnI : (n : Int) ≤ 1048576:=by omega
  clear ha2 hb2 hn
  go_enter Tryz.func120,Tryz.ntmps120
  go_wp2_with fail
  go_loopw [5] (fun s5 wr=>∃ i : Nat,s5 = .int .i64 (i : Int) ∧ i ≤ n ∧ Hid (Kb 0 w wr)) (fun s5 _=>n - (intOf s5).toNat)
  case atStart=>exact ⟨0,rfl,Nat.zero_le _,Kb.refl _ _⟩
  case round =>
    obtain ⟨i,rfl,hin,HB⟩:=hrel
    rcases Nat.lt_or_ge i n with hi | hi
    · have hA:=(show (0 < n → ∃ a : Addr,pa = some a ∧ n ≤ ca ∧ 0 ≤ a.block ∧ ∀ i,i < n → InsC 0 w (a.add (i * 5)) (N i)) ∧ (0 < n → ∃ a : Addr,pb = some a ∧ n ≤ cb ∧ 0 ≤ a.block ∧ ∀ i,i < n → InsC 0 w (a.add (i * 5)) (N i)) from HA)
      obtain ⟨qa,rfl,hca,-,hra⟩:=hA.1 (by omega)
      obtain ⟨qb,rfl,hcb,-,hrb⟩:=hA.2 (by omega)
      have hiI : (i : Int) < (n : Int):=by omega
      have ca:=(hra i hi).keep (Nat.zero_le _) HB
      have cb:=(hrb i hi).keep (Nat.zero_le _) HB
      have heq : ∀ W',Kb 0 wr W' → Calls Tryz.prog 149 #[insv (N i),insv (N i)] W' fun e w'=>e = .returned (.bool true) ∧ Kb 0 W' w':=fun W' _=>eq_ins (N i) W'
      replace heq : ∀ W',W'.heap = wr.heap → W'.os = wr.os → W'.output = wr.output → Calls Tryz.prog 149 #[insv (N i),insv (N i)] W' fun e w'=>e = .returned (.bool true) ∧ Kb 0 wr w':=fun W' h0 h1 h2=>by
        have kk : Kb 0 wr W':=⟨h1,h2,by rw [h0];exact Nat.le_refl _,fun k _ _=>by rw [h0]⟩
        refine (heq W' kk).mono ?_
        rintro e w' ⟨rfl,k⟩
        exact ⟨rfl,kk.trans k⟩
      obtain ⟨a0,a1,a2,a3,a4⟩:=ca
      obtain ⟨b0,b1,b2,b3,b4⟩:=cb
      clear hra hrb hA HA
      generalize N i = u at *
      obtain ⟨xo,xa,xb,xc,xd⟩:=u
      unfold insv at heq
      dsimp only at a0 a1 a2 a3 a4 b0 b1 b2 b3 b4 heq
      have HKEEP : Hid (∀ (W' : World),Kb 0 wr W' → W'.cell? (qa.add (i * 5)) = some (.int .i64 xo) ∧ W'.cell? ⟨(qa.add (i * 5)).block,(qa.add (i * 5)).off + 1,none⟩ = some (.int .i64 xa) ∧ W'.cell? ⟨(qa.add (i * 5)).block,(qa.add (i * 5)).off + 2,none⟩ = some (.int .i64 xb) ∧ W'.cell? ⟨(qa.add (i * 5)).block,(qa.add (i * 5)).off + 3,none⟩ = some (.int .i64 xc) ∧ W'.cell? ⟨(qa.add (i * 5)).block,(qa.add (i * 5)).off + 4,none⟩ = some (.int .i64 xd) ∧ W'.cell? (qb.add (i * 5)) = some (.int .i64 xo) ∧ W'.cell? ⟨(qb.add (i * 5)).block,(qb.add (i * 5)).off + 1,none⟩ = some (.int .i64 xa) ∧ W'.cell? ⟨(qb.add (i * 5)).block,(qb.add (i * 5)).off + 2,none⟩ = some (.int .i64 xb) ∧ W'.cell? ⟨(qb.add (i * 5)).block,(qb.add (i * 5)).off + 3,none⟩ = some (.int .i64 xc) ∧ W'.cell? ⟨(qb.add (i * 5)).block,(qb.add (i * 5)).off + 4,none⟩ = some (.int .i64 xd)):=by
        show ∀ (W' : World),_
        intro W' k
        exact ⟨k.cell a0,k.cell a1,k.cell a2,k.cell a3,k.cell a4,k.cell b0,k.cell b1,k.cell b2,k.cell b3,k.cell b4⟩
      have HEQ : Hid (∀ W',W'.heap = wr.heap → W'.os = wr.os → W'.output = wr.output → Calls Tryz.prog 149 #[.agg #[.int .i64 xo,.int .i64 xa,.int .i64 xb,.int .i64 xc,.int .i64 xd],.agg #[.int .i64 xo,.int .i64 xa,.int .i64 xb,.int .i64 xc,.int .i64 xd]] W' fun e w'=>e = .returned (.bool true) ∧ Kb 0 wr w'):=heq
      clear hin heq
      go_wp2_with fail
      go_region_held_law (fun W'=>W'.cell? (qa.add (i * 5)) = some (.int .i64 xo) ∧ W'.cell? ⟨(qa.add (i * 5)).block,(qa.add (i * 5)).off + 1,none⟩ = some (.int .i64 xa) ∧ W'.cell? ⟨(qa.add (i * 5)).block,(qa.add (i * 5)).off + 2,none⟩ = some (.int .i64 xb) ∧ W'.cell? ⟨(qa.add (i * 5)).block,(qa.add (i * 5)).off + 3,none⟩ = some (.int .i64 xc) ∧ W'.cell? ⟨(qa.add (i * 5)).block,(qa.add (i * 5)).off + 4,none⟩ = some (.int .i64 xd) ∧ W'.cell? (qb.add (i * 5)) = some (.int .i64 xo) ∧ W'.cell? ⟨(qb.add (i * 5)).block,(qb.add (i * 5)).off + 1,none⟩ = some (.int .i64 xa) ∧ W'.cell? ⟨(qb.add (i * 5)).block,(qb.add (i * 5)).off + 2,none⟩ = some (.int .i64 xb) ∧ W'.cell? ⟨(qb.add (i * 5)).block,(qb.add (i * 5)).off + 3,none⟩ = some (.int .i64 xc) ∧ W'.cell? ⟨(qb.add (i * 5)).block,(qb.add (i * 5)).off + 4,none⟩ = some (.int .i64 xd)) (first | exact ⟨a0,a1,a2,a3,a4,b0,b1,b2,b3,b4⟩ | exact (show ∀ (W' : World),_ from HKEEP) _ k5)
        ((go_at_call 149;refine ((show ∀ W',W'.heap = wr.heap → W'.os = wr.os → W'.output = wr.output → Calls Tryz.prog 149 #[.agg #[.int .i64 xo,.int .i64 xa,.int .i64 xb,.int .i64 xc,.int .i64 xd],.agg #[.int .i64 xo,.int .i64 xa,.int .i64 xb,.int .i64 xc,.int .i64 xd]] W' fun e w'=>e = .returned (.bool true) ∧ Kb 0 wr w' from HEQ) _ (by exact rfl) (by exact rfl) (by exact rfl)).mono ?_;rintro e w5 ⟨rfl,k5⟩))
      all_goals
        have HB5 : Hid (Kb 0 w w5):=(show Kb 0 w wr from HB).trans k5
        clear HB HKEEP HEQ k5 a0 a1 a2 a3 a4 b0 b1 b2 b3 b4
        go_wp2_with fail
        go_roundw
        case rel=>exact ⟨i + 1,by go_num,by omega,HB5⟩
        case measure=>simp [intOf];omega
    · obtain rfl : i = n:=by omega
      clear HA
      go_wp2_with fail
      go_ret
      exact ⟨rfl,HB⟩
theorem eq_nams {va vb : Value} {n : Nat} {D : Nat → Mv} (w : World) (ha : RowM 0 w va n D) (hb : RowM 0 w vb n D) (hn : n ≤ 1048576)  :
    Calls Tryz.prog 121 #[va,vb] w fun e w'=>e = .returned (.bool true) ∧ Kb 0 w w':=by
  obtain ⟨pa,ca,rfl,ha2⟩:=ha
  obtain ⟨pb,cb,rfl,hb2⟩:=hb
  have HA : Hid ((0 < n → ∃ a : Addr,pa = some a ∧ n ≤ ca ∧ 0 ≤ a.block ∧ ∀ i,i < n → NamC 0 w (a.add (i * 4)) (D i)) ∧ (0 < n → ∃ a : Addr,pb = some a ∧ n ≤ cb ∧ 0 ≤ a.block ∧ ∀ i,i < n → NamC 0 w (a.add (i * 4)) (D i))):=(⟨ha2,hb2⟩ : _ ∧ _)
  have hnI : (n : Int) ≤ 1048576:=by omega
  clear ha2 hb2 hn
  go_enter Tryz.func121,Tryz.ntmps121
  go_wp2_with fail
  go_loopw [5] (fun s5 wr=>∃ i : Nat,s5 = .int .i64 (i : Int) ∧ i ≤ n ∧ Hid (Kb 0 w wr)) (fun s5 _=>n - (intOf s5).toNat)
  case atStart=>exact ⟨0,rfl,Nat.zero_le _,Kb.refl _ _⟩
  case round =>
    obtain ⟨i,rfl,hin,HB⟩:=hrel
    rcases Nat.lt_or_ge i n with hi | hi
    · have hA:=(show (0 < n → ∃ a : Addr,pa = some a ∧ n ≤ ca ∧ 0 ≤ a.block ∧ ∀ i,i < n → NamC 0 w (a.add (i * 4)) (D i)) ∧ (0 < n → ∃ a : Addr,pb = some a ∧ n ≤ cb ∧ 0 ≤ a.block ∧ ∀ i,i < n → NamC 0 w (a.add (i * 4)) (D i)) from HA)
      obtain ⟨qa,rfl,hca,-,hra⟩:=hA.1 (by omega)
      obtain ⟨qb,rfl,hcb,-,hrb⟩:=hA.2 (by omega)
      have hiI : (i : Int) < (n : Int):=by omega
      have ca:=(hra i hi).keep (Nat.zero_le _) HB
      have cb:=(hrb i hi).keep (Nat.zero_le _) HB
      have heq : ∀ W',Kb 0 wr W' → Calls Tryz.prog 150 #[namv (D i),namv (D i)] W' fun e w'=>e = .returned (.bool true) ∧ Kb 0 W' w':=fun W' _=>eq_nam (D i) W'
      replace heq : ∀ W',W'.heap = wr.heap → W'.os = wr.os → W'.output = wr.output → Calls Tryz.prog 150 #[namv (D i),namv (D i)] W' fun e w'=>e = .returned (.bool true) ∧ Kb 0 wr w':=fun W' h0 h1 h2=>by
        have kk : Kb 0 wr W':=⟨h1,h2,by rw [h0];exact Nat.le_refl _,fun k _ _=>by rw [h0]⟩
        refine (heq W' kk).mono ?_
        rintro e w' ⟨rfl,k⟩
        exact ⟨rfl,kk.trans k⟩
      obtain ⟨a0,a1,a2,a3⟩:=ca
      obtain ⟨b0,b1,b2,b3⟩:=cb
      clear hra hrb hA HA
      generalize D i = u at *
      obtain ⟨xx,xa,xb,xc⟩:=u
      unfold namv at heq
      dsimp only at a0 a1 a2 a3 b0 b1 b2 b3 heq
      have HKEEP : Hid (∀ (W' : World),Kb 0 wr W' → W'.cell? (qa.add (i * 4)) = some (.string xx) ∧ W'.cell? ⟨(qa.add (i * 4)).block,(qa.add (i * 4)).off + 1,none⟩ = some (.int .i64 xa) ∧ W'.cell? ⟨(qa.add (i * 4)).block,(qa.add (i * 4)).off + 2,none⟩ = some (.int .i64 xb) ∧ W'.cell? ⟨(qa.add (i * 4)).block,(qa.add (i * 4)).off + 3,none⟩ = some (.int .i64 xc) ∧ W'.cell? (qb.add (i * 4)) = some (.string xx) ∧ W'.cell? ⟨(qb.add (i * 4)).block,(qb.add (i * 4)).off + 1,none⟩ = some (.int .i64 xa) ∧ W'.cell? ⟨(qb.add (i * 4)).block,(qb.add (i * 4)).off + 2,none⟩ = some (.int .i64 xb) ∧ W'.cell? ⟨(qb.add (i * 4)).block,(qb.add (i * 4)).off + 3,none⟩ = some (.int .i64 xc)):=by
        show ∀ (W' : World),_
        intro W' k
        exact ⟨k.cell a0,k.cell a1,k.cell a2,k.cell a3,k.cell b0,k.cell b1,k.cell b2,k.cell b3⟩
      have HEQ : Hid (∀ W',W'.heap = wr.heap → W'.os = wr.os → W'.output = wr.output → Calls Tryz.prog 150 #[.agg #[.string xx,.int .i64 xa,.int .i64 xb,.int .i64 xc],.agg #[.string xx,.int .i64 xa,.int .i64 xb,.int .i64 xc]] W' fun e w'=>e = .returned (.bool true) ∧ Kb 0 wr w'):=heq
      clear hin heq
      go_wp2_with fail
      go_region_held_law (fun W'=>W'.cell? (qa.add (i * 4)) = some (.string xx) ∧ W'.cell? ⟨(qa.add (i * 4)).block,(qa.add (i * 4)).off + 1,none⟩ = some (.int .i64 xa) ∧ W'.cell? ⟨(qa.add (i * 4)).block,(qa.add (i * 4)).off + 2,none⟩ = some (.int .i64 xb) ∧ W'.cell? ⟨(qa.add (i * 4)).block,(qa.add (i * 4)).off + 3,none⟩ = some (.int .i64 xc) ∧ W'.cell? (qb.add (i * 4)) = some (.string xx) ∧ W'.cell? ⟨(qb.add (i * 4)).block,(qb.add (i * 4)).off + 1,none⟩ = some (.int .i64 xa) ∧ W'.cell? ⟨(qb.add (i * 4)).block,(qb.add (i * 4)).off + 2,none⟩ = some (.int .i64 xb) ∧ W'.cell? ⟨(qb.add (i * 4)).block,(qb.add (i * 4)).off + 3,none⟩ = some (.int .i64 xc)) (first | exact ⟨a0,a1,a2,a3,b0,b1,b2,b3⟩ | exact (show ∀ (W' : World),_ from HKEEP) _ k5)
        ((go_at_call 150;refine ((show ∀ W',W'.heap = wr.heap → W'.os = wr.os → W'.output = wr.output → Calls Tryz.prog 150 #[.agg #[.string xx,.int .i64 xa,.int .i64 xb,.int .i64 xc],.agg #[.string xx,.int .i64 xa,.int .i64 xb,.int .i64 xc]] W' fun e w'=>e = .returned (.bool true) ∧ Kb 0 wr w' from HEQ) _ (by exact rfl) (by exact rfl) (by exact rfl)).mono ?_;rintro e w5 ⟨rfl,k5⟩))
      all_goals
        have HB5 : Hid (Kb 0 w w5):=(show Kb 0 w wr from HB).trans k5
        clear HB HKEEP HEQ k5 a0 a1 a2 a3 b0 b1 b2 b3
        go_wp2_with fail
        go_roundw
        case rel=>exact ⟨i + 1,by go_num,by omega,HB5⟩
        case measure=>simp [intOf];omega
    · obtain rfl : i = n:=by omega
      clear HA
      go_wp2_with fail
      go_ret
      exact ⟨rfl,HB⟩
theorem eq_vals {va vb : Value} {n : Nat} {C : Nat → Vv} (w : World) (ha : RowW 0 w va n C) (hb : RowW 0 w vb n C) (hn : n ≤ 1048576) (hC : ∀ i, i < n → (C i).g < 18446744073709551616) :
    Calls Tryz.prog 119 #[va,vb] w fun e w'=>e = .returned (.bool true) ∧ Kb 0 w w':=by
  obtain ⟨pa,ca,rfl,ha2⟩:=ha
  obtain ⟨pb,cb,rfl,hb2⟩:=hb
  have HA : Hid ((0 < n → ∃ a : Addr,pa = some a ∧ n ≤ ca ∧ 0 ≤ a.block ∧ ∀ i,i < n → ValC 0 w (a.add (i * 5)) (C i)) ∧ (0 < n → ∃ a : Addr,pb = some a ∧ n ≤ cb ∧ 0 ≤ a.block ∧ ∀ i,i < n → ValC 0 w (a.add (i * 5)) (C i)) ∧ (∀ i,i < n → (C i).g < 18446744073709551616)):=(⟨ha2,hb2,hC⟩ : _ ∧ _)
  have hnI : (n : Int) ≤ 1048576:=by omega
  clear ha2 hb2 hn hC
  go_enter Tryz.func119,Tryz.ntmps119
  go_wp2_with fail
  go_loopw [5] (fun s5 wr=>∃ i : Nat,s5 = .int .i64 (i : Int) ∧ i ≤ n ∧ Hid (Kb 0 w wr)) (fun s5 _=>n - (intOf s5).toNat)
  case atStart=>exact ⟨0,rfl,Nat.zero_le _,Kb.refl _ _⟩
  case round =>
    obtain ⟨i,rfl,hin,HB⟩:=hrel
    rcases Nat.lt_or_ge i n with hi | hi
    · have hA:=(show (0 < n → ∃ a : Addr,pa = some a ∧ n ≤ ca ∧ 0 ≤ a.block ∧ ∀ i,i < n → ValC 0 w (a.add (i * 5)) (C i)) ∧ (0 < n → ∃ a : Addr,pb = some a ∧ n ≤ cb ∧ 0 ≤ a.block ∧ ∀ i,i < n → ValC 0 w (a.add (i * 5)) (C i)) ∧ (∀ i,i < n → (C i).g < 18446744073709551616) from HA)
      obtain ⟨qa,rfl,hca,-,hra⟩:=hA.1 (by omega)
      obtain ⟨qb,rfl,hcb,-,hrb⟩:=hA.2.1 (by omega)
      have hiI : (i : Int) < (n : Int):=by omega
      have ca:=(hra i hi).keep (Nat.zero_le _) HB
      have cb:=(hrb i hi).keep (Nat.zero_le _) HB
      have y1:=hA.2.2 i hi
      have heq : ∀ W',Kb 0 wr W' → Calls Tryz.prog 148 #[valv (C i),valv (C i)] W' fun e w'=>e = .returned (.bool true) ∧ Kb 0 W' w':=fun W' _=>eq_valu (C i) y1 W'
      replace heq : ∀ W',W'.heap = wr.heap → W'.os = wr.os → W'.output = wr.output → Calls Tryz.prog 148 #[valv (C i),valv (C i)] W' fun e w'=>e = .returned (.bool true) ∧ Kb 0 wr w':=fun W' h0 h1 h2=>by
        have kk : Kb 0 wr W':=⟨h1,h2,by rw [h0];exact Nat.le_refl _,fun k _ _=>by rw [h0]⟩
        refine (heq W' kk).mono ?_
        rintro e w' ⟨rfl,k⟩
        exact ⟨rfl,kk.trans k⟩
      obtain ⟨a0,a1,a2,a3,a4⟩:=ca
      obtain ⟨b0,b1,b2,b3,b4⟩:=cb
      clear hra hrb hA HA y1
      generalize C i = u at *
      obtain ⟨xk,xm,xg,xx,xr⟩:=u
      unfold valv at heq
      dsimp only at a0 a1 a2 a3 a4 b0 b1 b2 b3 b4 heq
      have HKEEP : Hid (∀ (W' : World),Kb 0 wr W' → W'.cell? (qa.add (i * 5)) = some (.int .i64 xk) ∧ W'.cell? ⟨(qa.add (i * 5)).block,(qa.add (i * 5)).off + 1,none⟩ = some (.int .i64 xm) ∧ W'.cell? ⟨(qa.add (i * 5)).block,(qa.add (i * 5)).off + 2,none⟩ = some (.float .f64 xg) ∧ W'.cell? ⟨(qa.add (i * 5)).block,(qa.add (i * 5)).off + 3,none⟩ = some (.string xx) ∧ W'.cell? ⟨(qa.add (i * 5)).block,(qa.add (i * 5)).off + 4,none⟩ = some (.int .i64 xr) ∧ W'.cell? (qb.add (i * 5)) = some (.int .i64 xk) ∧ W'.cell? ⟨(qb.add (i * 5)).block,(qb.add (i * 5)).off + 1,none⟩ = some (.int .i64 xm) ∧ W'.cell? ⟨(qb.add (i * 5)).block,(qb.add (i * 5)).off + 2,none⟩ = some (.float .f64 xg) ∧ W'.cell? ⟨(qb.add (i * 5)).block,(qb.add (i * 5)).off + 3,none⟩ = some (.string xx) ∧ W'.cell? ⟨(qb.add (i * 5)).block,(qb.add (i * 5)).off + 4,none⟩ = some (.int .i64 xr)):=by
        show ∀ (W' : World),_
        intro W' k
        exact ⟨k.cell a0,k.cell a1,k.cell a2,k.cell a3,k.cell a4,k.cell b0,k.cell b1,k.cell b2,k.cell b3,k.cell b4⟩
      have HEQ : Hid (∀ W',W'.heap = wr.heap → W'.os = wr.os → W'.output = wr.output → Calls Tryz.prog 148 #[.agg #[.int .i64 xk,.int .i64 xm,.float .f64 xg,.string xx,.int .i64 xr],.agg #[.int .i64 xk,.int .i64 xm,.float .f64 xg,.string xx,.int .i64 xr]] W' fun e w'=>e = .returned (.bool true) ∧ Kb 0 wr w'):=heq
      clear hin heq
      go_wp2_with fail
      go_region_held_law (fun W'=>W'.cell? (qa.add (i * 5)) = some (.int .i64 xk) ∧ W'.cell? ⟨(qa.add (i * 5)).block,(qa.add (i * 5)).off + 1,none⟩ = some (.int .i64 xm) ∧ W'.cell? ⟨(qa.add (i * 5)).block,(qa.add (i * 5)).off + 2,none⟩ = some (.float .f64 xg) ∧ W'.cell? ⟨(qa.add (i * 5)).block,(qa.add (i * 5)).off + 3,none⟩ = some (.string xx) ∧ W'.cell? ⟨(qa.add (i * 5)).block,(qa.add (i * 5)).off + 4,none⟩ = some (.int .i64 xr) ∧ W'.cell? (qb.add (i * 5)) = some (.int .i64 xk) ∧ W'.cell? ⟨(qb.add (i * 5)).block,(qb.add (i * 5)).off + 1,none⟩ = some (.int .i64 xm) ∧ W'.cell? ⟨(qb.add (i * 5)).block,(qb.add (i * 5)).off + 2,none⟩ = some (.float .f64 xg) ∧ W'.cell? ⟨(qb.add (i * 5)).block,(qb.add (i * 5)).off + 3,none⟩ = some (.string xx) ∧ W'.cell? ⟨(qb.add (i * 5)).block,(qb.add (i * 5)).off + 4,none⟩ = some (.int .i64 xr)) (first | exact ⟨a0,a1,a2,a3,a4,b0,b1,b2,b3,b4⟩ | exact (show ∀ (W' : World),_ from HKEEP) _ k5)
        ((go_at_call 148;refine ((show ∀ W',W'.heap = wr.heap → W'.os = wr.os → W'.output = wr.output → Calls Tryz.prog 148 #[.agg #[.int .i64 xk,.int .i64 xm,.float .f64 xg,.string xx,.int .i64 xr],.agg #[.int .i64 xk,.int .i64 xm,.float .f64 xg,.string xx,.int .i64 xr]] W' fun e w'=>e = .returned (.bool true) ∧ Kb 0 wr w' from HEQ) _ (by exact rfl) (by exact rfl) (by exact rfl)).mono ?_;rintro e w5 ⟨rfl,k5⟩))
      all_goals
        have HB5 : Hid (Kb 0 w w5):=(show Kb 0 w wr from HB).trans k5
        clear HB HKEEP HEQ k5 a0 a1 a2 a3 a4 b0 b1 b2 b3 b4
        go_wp2_with fail
        go_roundw
        case rel=>exact ⟨i + 1,by go_num,by omega,HB5⟩
        case measure=>simp [intOf];omega
    · obtain rfl : i = n:=by omega
      clear HA
      go_wp2_with fail
      go_ret
      exact ⟨rfl,HB⟩
end Go.Proofs.YtnmeemjoodoalaaGreatDoor.Fo
