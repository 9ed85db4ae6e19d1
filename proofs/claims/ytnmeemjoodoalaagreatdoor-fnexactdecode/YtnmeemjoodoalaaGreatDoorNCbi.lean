import Derived.Test.YtnmeemjoodoalaaGreatDoorNCba
import Derived.Deep.Slices
import Derived.SizedLaws
import Derived.Carry
set_option maxRecDepth 100000
set_option maxHeartbeats 32000000
namespace Go.Proofs.YtnmeemjoodoalaaGreatDoor.Fo
open Go.ChangeShapes Go.WideShapes Go.ChangeAt Go.RowKit
set_option linter.unusedVariables false
set_option maxRecDepth 100000
theorem eq_nams {va vb : Value} {n : Nat} {D : Nat → Mv} (w : World) (ha : RowM 0 w va n D) (hb : RowM 0 w vb n D) (hn : n ≤ 1048576)  :
    Calls Tryz.prog 121 #[va,vb] w fun e w'=>e = .returned (.bool true) ∧ Kb 0 w w':=by
  obtain ⟨pa,ca,rfl,ha2⟩:=ha
  obtain ⟨pb,cb,rfl,hb2⟩:=hb
  have HA : Hid ((0 < n → ∃ a : Addr,pa = some a ∧ n ≤ ca ∧ 0 ≤ a.block ∧ ∀ i,i < n → NamC 0 w (a.add (i * 4)) (D i)) ∧ (0 < n → ∃ a : Addr,pb = some a ∧ n ≤ cb ∧ 0 ≤ a.block ∧ ∀ i,i < n → NamC 0 w (a.add (i * 4)) (D i))):=(⟨ha2,hb2⟩ : _ ∧ _)
  have hnI : (n : Int) ≤ 1048576:=by omega
  clear ha2 hb2 hn
  go_enter Tryz.func121,Tryz.ntmps121
  go_wp2_with fail
  go_loopw [5] (fun s5 wr=>∃ i : Nat,s5 = .int .i64 (i : Int) ∧ i ≤ n ∧ Hid (Kb 0 w wr)) (fun s5 _=>n - (intOf s5).toNat)
  case atStart=>exact ⟨0,rfl,Nat.zero_le _,Kb.refl _ _⟩
  case round =>
    obtain ⟨i,rfl,hin,HB⟩:=hrel
    rcases Nat.lt_or_ge i n with hi | hi
    · have hA:=(show (0 < n → ∃ a : Addr,pa = some a ∧ n ≤ ca ∧ 0 ≤ a.block ∧ ∀ i,i < n → NamC 0 w (a.add (i * 4)) (D i)) ∧ (0 < n → ∃ a : Addr,pb = some a ∧ n ≤ cb ∧ 0 ≤ a.block ∧ ∀ i,i < n → NamC 0 w (a.add (i * 4)) (D i)) from HA)
      obtain ⟨qa,rfl,hca,-,hra⟩:=hA.1 (by omega)
      obtain ⟨qb,rfl,hcb,-,hrb⟩:=hA.2 (by omega)
      have hiI : (i : Int) < (n : Int):=by omega
      have ca:=(hra i hi).keep (Nat.zero_le _) HB
      have cb:=(hrb i hi).keep (Nat.zero_le _) HB
      have heq : ∀ W',Kb 0 wr W' → Calls Tryz.prog 150 #[namv (D i),namv (D i)] W' fun e w'=>e = .returned (.bool true) ∧ Kb 0 W' w':=fun W' _=>eq_nam (D i) W'
      replace heq : ∀ W',W'.heap = wr.heap → W'.os = wr.os → W'.output = wr.output → Calls Tryz.prog 150 #[namv (D i),namv (D i)] W' fun e w'=>e = .returned (.bool true) ∧ Kb 0 wr w':=fun W' h0 h1 h2=>by
        have kk : Kb 0 wr W':=⟨h1,h2,by rw [h0];exact Nat.le_refl _,fun k _ _=>by rw [h0]⟩
        refine (heq W' kk).mono ?_
        rintro e w' ⟨rfl,k⟩
        exact ⟨rfl,kk.trans k⟩
      obtain ⟨a0,a1,a2,a3⟩:=ca
      obtain ⟨b0,b1,b2,b3⟩:=cb
      clear hra hrb hA HA
      generalize D i = u at *
      obtain ⟨xx,xa,xb,xc⟩:=u
      unfold namv at heq
      dsimp only at a0 a1 a2 a3 b0 b1 b2 b3 heq
      have HKEEP : Hid (∀ (W' : World),Kb 0 wr W' → W'.cell? (qa.add (i * 4)) = some (.string xx) ∧ W'.cell? ⟨(qa.add (i * 4)).block,(qa.add (i * 4)).off + 1,none⟩ = some (.int .i64 xa) ∧ W'.cell? ⟨(qa.add (i * 4)).block,(qa.add (i * 4)).off + 2,none⟩ = some (.int .i64 xb) ∧ W'.cell? ⟨(qa.add (i * 4)).block,(qa.add (i * 4)).off + 3,none⟩ = some (.int .i64 xc) ∧ W'.cell? (qb.add (i * 4)) = some (.string xx) ∧ W'.cell? ⟨(qb.add (i * 4)).block,(qb.add (i * 4)).off + 1,none⟩ = some (.int .i64 xa) ∧ W'.cell? ⟨(qb.add (i * 4)).block,(qb.add (i * 4)).off + 2,none⟩ = some (.int .i64 xb) ∧ W'.cell? ⟨(qb.add (i * 4)).block,(qb.add (i * 4)).off + 3,none⟩ = some (.int .i64 xc)):=by
        show ∀ (W' : World),_
        intro W' k
        exact ⟨k.cell a0,k.cell a1,k.cell a2,k.cell a3,k.cell b0,k.cell b1,k.cell b2,k.cell b3⟩
      have HEQ : Hid (∀ W',W'.heap = wr.heap → W'.os = wr.os → W'.output = wr.output → Calls Tryz.prog 150 #[.agg #[.string xx,.int .i64 xa,.int .i64 xb,.int .i64 xc],.agg #[.string xx,.int .i64 xa,.int .i64 xb,.int .i64 xc]] W' fun e w'=>e = .returned (.bool true) ∧ Kb 0 wr w'):=heq
      clear hin heq
      go_wp2_with fail
      go_region_held_law (fun W'=>W'.cell? (qa.add (i * 4)) = some (.string xx) ∧ W'.cell? ⟨(qa.add (i * 4)).block,(qa.add (i * 4)).off + 1,none⟩ = some (.int .i64 xa) ∧ W'.cell? ⟨(qa.add (i * 4)).block,(qa.add (i * 4)).off + 2,none⟩ = some (.int .i64 xb) ∧ W'.cell? ⟨(qa.add (i * 4)).block,(qa.add (i * 4)).off + 3,none⟩ = some (.int .i64 xc) ∧ W'.cell? (qb.add (i * 4)) = some (.string xx) ∧ W'.cell? ⟨(qb.add (i * 4)).block,(qb.add (i * 4)).off + 1,none⟩ = some (.int .i64 xa) ∧ W'.cell? ⟨(qb.add (i * 4)).block,(qb.add (i * 4)).off + 2,none⟩ = some (.int .i64 xb) ∧ W'.cell? ⟨(qb.add (i * 4)).block,(qb.add (i * 4)).off + 3,none⟩ = some (.int .i64 xc)) (first | exact ⟨a0,a1,a2,a3,b0,b1,b2,b3⟩ | exact (show ∀ (W' : World),_ from HKEEP) _ k5)
        ((go_at_call 150;refine ((show ∀ W',W'.heap = wr.heap → W'.os = wr.os → W'.output = wr.output → Calls Tryz.prog 150 #[.agg #[.string xx,.int .i64 xa,.int .i64 xb,.int .i64 xc],.agg #[.string xx,.int .i64 xa,.int .i64 xb,.int .i64 xc]] W' fun e w'=>e = .returned (.bool true) ∧ Kb 0 wr w' from HEQ) _ (by exact rfl) (by exact rfl) (by exact rfl)).mono ?_;rintro e w5 ⟨rfl,k5⟩))
      all_goals
        have HB5 : Hid (Kb 0 w w5):=(show Kb 0 w wr from HB).trans k5
        clear HB HKEEP HEQ k5 a0 a1 a2 a3 b0 b1 b2 b3
        go_wp2_with fail
        go_roundw
        case rel=>exact ⟨i + 1,by go_num,by omega,HB5⟩
        case measure=>simp [intOf];omega
    · obtain rfl : i = n:=by omega
      clear HA
      go_wp2_with fail
      go_ret
      exact ⟨rfl,HB⟩
theorem eq_vals {va vb : Value} {n : Nat} {C : Nat → Vv} (w : World) (ha : RowW 0 w va n C) (hb : RowW 0 w vb n C) (hn : n ≤ 1048576) (hC : ∀ i, i < n → (C i).g < 18446744073709551616) :
    Calls Tryz.prog 119 #[va,vb] w fun e w'=>e = .returned (.bool true) ∧ Kb 0 w w':=by
  obtain ⟨pa,ca,rfl,ha2⟩:=ha
  obtain ⟨pb,cb,rfl,hb2⟩:=hb
  have HA : Hid ((0 < n → ∃ a : Addr,pa = some a ∧ n ≤ ca ∧ 0 ≤ a.block ∧ ∀ i,i < n → ValC 0 w (a.add (i * 5)) (C i)) ∧ (0 < n → ∃ a : Addr,pb = some a ∧ n ≤ cb ∧ 0 ≤ a.block ∧ ∀ i,i < n → ValC 0 w (a.add (i * 5)) (C i)) ∧ (∀ i,i < n → (C i).g < 18446744073709551616)):=(⟨ha2,hb2,hC⟩ : _ ∧ _)
  have hnI : (n : Int) ≤ 1048576:=by omega
  clear ha2 hb2 hn hC
  go_enter Tryz.func119,Tryz.ntmps119
  go_wp2_with fail
  go_loopw [5] (fun s5 wr=>∃ i : Nat,s5 = .int .i64 (i : Int) ∧ i ≤ n ∧ Hid (Kb 0 w wr)) (fun s5 _=>n - (intOf s5).toNat)
  case atStart=>exact ⟨0,rfl,Nat.zero_le _,Kb.refl _ _⟩
  case round =>
    obtain ⟨i,rfl,hin,HB⟩:=hrel
    rcases Nat.lt_or_ge i n with hi | hi
    · have hA:=(show (0 < n → ∃ a : Addr,pa = some a ∧ n ≤ ca ∧ 0 ≤ a.block ∧ ∀ i,i < n → ValC 0 w (a.add (i * 5)) (C i)) ∧ (0 < n → ∃ a : Addr,pb = some a ∧ n ≤ cb ∧ 0 ≤ a.block ∧ ∀ i,i < n → ValC 0 w (a.add (i * 5)) (C i)) ∧ (∀ i,i < n → (C i).g < 18446744073709551616) from HA)
      obtain ⟨qa,rfl,hca,-,hra⟩:=hA.1 (by omega)
      obtain ⟨qb,rfl,hcb,-,hrb⟩:=hA.2.1 (by omega)
      have hiI : (i : Int) < (n : Int):=by omega
      have ca:=(hra i hi).keep (Nat.zero_le _) HB
      have cb:=(hrb i hi).keep (Nat.zero_le _) HB
      have y1:=hA.2.2 i hi
      have heq : ∀ W',Kb 0 wr W' → Calls Tryz.prog 148 #[valv (C i),valv (C i)] W' fun e w'=>e = .returned (.bool true) ∧ Kb 0 W' w':=fun W' _=>eq_valu (C i) y1 W'
      replace heq : ∀ W',W'.heap = wr.heap → W'.os = wr.os → W'.output = wr.output → Calls Tryz.prog 148 #[valv (C i),valv (C i)] W' fun e w'=>e = .returned (.bool true) ∧ Kb 0 wr w':=fun W' h0 h1 h2=>by
        have kk : Kb 0 wr W':=⟨h1,h2,by rw [h0];exact Nat.le_refl _,fun k _ _=>by rw [h0]⟩
        refine (heq W' kk).mono ?_
        rintro e w' ⟨rfl,k⟩
        exact ⟨rfl,kk.trans k⟩
      obtain ⟨a0,a1,a2,a3,a4⟩:=ca
      obtain ⟨b0,b1,b2,b3,b4⟩:=cb
      clear hra hrb hA HA y1
      generalize C i = u at *
      obtain ⟨xk,xm,xg,xx,xr⟩:=u
      unfold valv at heq
      dsimp only at a0 a1 a2 a3 a4 b0 b1 b2 b3 b4 heq
      have HKEEP : Hid (∀ (W' : World),Kb 0 wr W' → W'.cell? (qa.add (i * 5)) = some (.int .i64 xk) ∧ W'.cell? ⟨(qa.add (i * 5)).block,(qa.add (i * 5)).off + 1,none⟩ = some (.int .i64 xm) ∧ W'.cell? ⟨(qa.add (i * 5)).block,(qa.add (i * 5)).off + 2,none⟩ = some (.float .f64 xg) ∧ W'.cell? ⟨(qa.add (i * 5)).block,(qa.add (i * 5)).off + 3,none⟩ = some (.string xx) ∧ W'.cell? ⟨(qa.add (i * 5)).block,(qa.add (i * 5)).off + 4,none⟩ = some (.int .i64 xr) ∧ W'.cell? (qb.add (i * 5)) = some (.int .i64 xk) ∧ W'.cell? ⟨(qb.add (i * 5)).block,(qb.add (i * 5)).off + 1,none⟩ = some (.int .i64 xm) ∧ W'.cell? ⟨(qb.add (i * 5)).block,(qb.add (i * 5)).off + 2,none⟩ = some (.float .f64 xg) ∧ W'.cell? ⟨(qb.add (i * 5)).block,(qb.add (i * 5)).off + 3,none⟩ = some (.string xx) ∧ W'.cell? ⟨(qb.add (i * 5)).block,(qb.add (i * 5)).off + 4,none⟩ = some (.int .i64 xr)):=by
        show ∀ (W' : World),_
        intro W' k
        exact ⟨k.cell a0,k.cell a1,k.cell a2,k.cell a3,k.cell a4,k.cell b0,k.cell b1,k.cell b2,k.cell b3,k.cell b4⟩
      have HEQ : Hid (∀ W',W'.heap = wr.heap → W'.os = wr.os → W'.output = wr.output → Calls Tryz.prog 148 #[.agg #[.int .i64 xk,.int .i64 xm,.float .f64 xg,.string xx,.int .i64 xr],.agg #[.int .i64 xk,.int .i64 xm,.float .f64 xg,.string xx,.int .i64 xr]] W' fun e w'=>e = .returned (.bool true) ∧ Kb 0 wr w'):=heq
      clear hin heq
      go_wp2_with fail
      go_region_held_law (fun W'=>W'.cell? (qa.add (i * 5)) = some (.int .i64 xk) ∧ W'.cell? ⟨(qa.add (i * 5)).block,(qa.add (i * 5)).off + 1,none⟩ = some (.int .i64 xm) ∧ W'.cell? ⟨(qa.add (i * 5)).block,(qa.add (i * 5)).off + 2,none⟩ = some (.float .f64 xg) ∧ W'.cell? ⟨(qa.add (i * 5)).block,(qa.add (i * 5)).off + 3,none⟩ = some (.string xx) ∧ W'.cell? ⟨(qa.add (i * 5)).block,(qa.add (i * 5)).off + 4,none⟩ = some (.int .i64 xr) ∧ W'.cell? (qb.add (i * 5)) = some (.int .i64 xk) ∧ W'.cell? ⟨(qb.add (i * 5)).block,(qb.add (i * 5)).off + 1,none⟩ = some (.int .i64 xm) ∧ W'.cell? ⟨(qb.add (i * 5)).block,(qb.add (i * 5)).off + 2,none⟩ = some (.float .f64 xg) ∧ W'.cell? ⟨(qb.add (i * 5)).block,(qb.add (i * 5)).off + 3,none⟩ = some (.string xx) ∧ W'.cell? ⟨(qb.add (i * 5)).block,(qb.add (i * 5)).off + 4,none⟩ = some (.int .i64 xr)) (first | exact ⟨a0,a1,a2,a3,a4,b0,b1,b2,b3,b4⟩ | exact (show ∀ (W' : World),_ from HKEEP) _ k5)
        ((go_at_call 148;refine ((show ∀ W',W'.heap = wr.heap → W'.os = wr.os → W'.output = wr.output → Calls Tryz.prog 148 #[.agg #[.int .i64 xk,.int .i64 xm,.float .f64 xg,.string xx,.int .i64 xr],.agg #[.int .i64 xk,.int .i64 xm,.float .f64 xg,.string xx,.int .i64 xr]] W' fun e w'=>e = .returned (.bool true) ∧ Kb 0 wr w' from HEQ) _ (by exact rfl) (by exact rfl) (by exact rfl)).mono ?_;rintro e w5 ⟨rfl,k5⟩))
      all_goals
        have HB5 : Hid (Kb 0 w w5):=(show Kb 0 w wr from HB).trans k5
        clear HB HKEEP HEQ k5 a0 a1 a2 a3 a4 b0 b1 b2 b3 b4
        go_wp2_with fail
        go_roundw
        case rel=>exact ⟨i + 1,by go_num,by omega,HB5⟩
        case measure=>simp [intOf];omega
    · obtain rfl : i = n:=by omega
      clear HA
      go_wp2_with fail
      go_ret
      exact ⟨rfl,HB⟩
theorem eq_pros {va vb : Value} {n : Nat} {F : Nat → Pd} (w : World) (ha : RowP 0 w va n F) (hb : RowP 0 w vb n F) (hn : n ≤ 1048576) (hF : ∀ i, i < n → (F i).u ≤ 1048576 ∧ (F i).c ≤ 1048576 ∧ (F i).n ≤ 1048576 ∧ (F i).d ≤ 1048576 ∧ ∀ j, j < (F i).c → ((F i).C j).g < 18446744073709551616) :
    Calls Tryz.prog 27 #[va,vb] w fun e w'=>e = .returned (.bool true) ∧ Kb 0 w w':=by
  obtain ⟨pa,ca,rfl,ha2⟩:=ha
  obtain ⟨pb,cb,rfl,hb2⟩:=hb
  have HA : Hid ((0 < n → ∃ a : Addr,pa = some a ∧ n ≤ ca ∧ 0 ≤ a.block ∧ ∀ i,i < n → ProC 0 w (a.add (i * 9)) (F i)) ∧ (0 < n → ∃ a : Addr,pb = some a ∧ n ≤ cb ∧ 0 ≤ a.block ∧ ∀ i,i < n → ProC 0 w (a.add (i * 9)) (F i)) ∧ (∀ i,i < n → (F i).u ≤ 1048576 ∧ (F i).c ≤ 1048576 ∧ (F i).n ≤ 1048576 ∧ (F i).d ≤ 1048576 ∧ ∀ j,j < (F i).c → ((F i).C j).g < 18446744073709551616)):=(⟨ha2,hb2,hF⟩ : _ ∧ _)
  have hnI : (n : Int) ≤ 1048576:=by omega
  clear ha2 hb2 hn hF
  go_enter Tryz.func27,Tryz.ntmps27
  go_wp2_with fail
  go_loopw [5] (fun s5 wr=>∃ i : Nat,s5 = .int .i64 (i : Int) ∧ i ≤ n ∧ Hid (Kb 0 w wr)) (fun s5 _=>n - (intOf s5).toNat)
  case atStart=>exact ⟨0,rfl,Nat.zero_le _,Kb.refl _ _⟩
  case round =>
    obtain ⟨i,rfl,hin,HB⟩:=hrel
    rcases Nat.lt_or_ge i n with hi | hi
    · have hA:=(show (0 < n → ∃ a : Addr,pa = some a ∧ n ≤ ca ∧ 0 ≤ a.block ∧ ∀ i,i < n → ProC 0 w (a.add (i * 9)) (F i)) ∧ (0 < n → ∃ a : Addr,pb = some a ∧ n ≤ cb ∧ 0 ≤ a.block ∧ ∀ i,i < n → ProC 0 w (a.add (i * 9)) (F i)) ∧ (∀ i,i < n → (F i).u ≤ 1048576 ∧ (F i).c ≤ 1048576 ∧ (F i).n ≤ 1048576 ∧ (F i).d ≤ 1048576 ∧ ∀ j,j < (F i).c → ((F i).C j).g < 18446744073709551616) from HA)
      obtain ⟨qa,rfl,hca,-,hra⟩:=hA.1 (by omega)
      obtain ⟨qb,rfl,hcb,-,hrb⟩:=hA.2.1 (by omega)
      have hiI : (i : Int) < (n : Int):=by omega
      obtain ⟨vu,vc,vn,vd,ca,h1,h2,h3,h4⟩:=(hra i hi).keep (Nat.zero_le _) HB
      obtain ⟨uu,uc,un,ud,cb,h5,h6,h7,h8⟩:=(hrb i hi).keep (Nat.zero_le _) HB
      obtain ⟨y1,y2,y3,y4,y5⟩:=hA.2.2 i hi
      have heq : ∀ W',Kb 0 wr W' → Calls Tryz.prog 65 #[prov (F i) vu vc vn vd,prov (F i) uu uc un ud] W' fun e w'=>e = .returned (.bool true) ∧ Kb 0 W' w':=fun W' k=>eq_pro W' (fun W k2=>eq_ups W (h1.keep (k.trans k2)) (h5.keep (k.trans k2)) y1) (fun W k2=>eq_vals W (h2.keep (k.trans k2)) (h6.keep (k.trans k2)) y2 y5) (fun W k2=>eq_inss W (h3.keep (k.trans k2)) (h7.keep (k.trans k2)) y3) (fun W k2=>eq_nams W (h4.keep (k.trans k2)) (h8.keep (k.trans k2)) y4)
      replace heq : ∀ W',W'.heap = wr.heap → W'.os = wr.os → W'.output = wr.output → Calls Tryz.prog 65 #[prov (F i) vu vc vn vd,prov (F i) uu uc un ud] W' fun e w'=>e = .returned (.bool true) ∧ Kb 0 wr w':=fun W' h0 h1 h2=>by
        have kk : Kb 0 wr W':=⟨h1,h2,by rw [h0];exact Nat.le_refl _,fun k _ _=>by rw [h0]⟩
        refine (heq W' kk).mono ?_
        rintro e w' ⟨rfl,k⟩
        exact ⟨rfl,kk.trans k⟩
      obtain ⟨a0,a1,a2,a3,a4,a5,a6,a7,a8⟩:=ca
      obtain ⟨b0,b1,b2,b3,b4,b5,b6,b7,b8⟩:=cb
      clear hra hrb hA HA h1 h2 h3 h4 h5 h6 h7 h8 y1 y2 y3 y4 y5
      generalize F i = G at *
      obtain ⟨xx,xl,xm,xr,xg,gu,gU,gc,gC,gn,gN,gd,gD⟩:=G
      unfold prov at heq
      dsimp only at a0 a1 a2 a3 a4 b0 b1 b2 b3 b4 heq
      have HKEEP : Hid (∀ (W' : World),Kb 0 wr W' → W'.cell? (qa.add (i * 9)) = some (.string xx) ∧ W'.cell? ⟨(qa.add (i * 9)).block,(qa.add (i * 9)).off + 1,none⟩ = some (.int .i64 xl) ∧ W'.cell? ⟨(qa.add (i * 9)).block,(qa.add (i * 9)).off + 2,none⟩ = some (.int .i64 xm) ∧ W'.cell? ⟨(qa.add (i * 9)).block,(qa.add (i * 9)).off + 3,none⟩ = some (.bool xr) ∧ W'.cell? ⟨(qa.add (i * 9)).block,(qa.add (i * 9)).off + 4,none⟩ = some (.int .i64 xg) ∧ W'.cell? ⟨(qa.add (i * 9)).block,(qa.add (i * 9)).off + 5,none⟩ = some (vu) ∧ W'.cell? ⟨(qa.add (i * 9)).block,(qa.add (i * 9)).off + 6,none⟩ = some (vc) ∧ W'.cell? ⟨(qa.add (i * 9)).block,(qa.add (i * 9)).off + 7,none⟩ = some (vn) ∧ W'.cell? ⟨(qa.add (i * 9)).block,(qa.add (i * 9)).off + 8,none⟩ = some (vd) ∧ W'.cell? (qb.add (i * 9)) = some (.string xx) ∧ W'.cell? ⟨(qb.add (i * 9)).block,(qb.add (i * 9)).off + 1,none⟩ = some (.int .i64 xl) ∧ W'.cell? ⟨(qb.add (i * 9)).block,(qb.add (i * 9)).off + 2,none⟩ = some (.int .i64 xm) ∧ W'.cell? ⟨(qb.add (i * 9)).block,(qb.add (i * 9)).off + 3,none⟩ = some (.bool xr) ∧ W'.cell? ⟨(qb.add (i * 9)).block,(qb.add (i * 9)).off + 4,none⟩ = some (.int .i64 xg) ∧ W'.cell? ⟨(qb.add (i * 9)).block,(qb.add (i * 9)).off + 5,none⟩ = some (uu) ∧ W'.cell? ⟨(qb.add (i * 9)).block,(qb.add (i * 9)).off + 6,none⟩ = some (uc) ∧ W'.cell? ⟨(qb.add (i * 9)).block,(qb.add (i * 9)).off + 7,none⟩ = some (un) ∧ W'.cell? ⟨(qb.add (i * 9)).block,(qb.add (i * 9)).off + 8,none⟩ = some (ud)):=by
        show ∀ (W' : World),_
        intro W' k
        exact ⟨k.cell a0,k.cell a1,k.cell a2,k.cell a3,k.cell a4,k.cell a5,k.cell a6,k.cell a7,k.cell a8,k.cell b0,k.cell b1,k.cell b2,k.cell b3,k.cell b4,k.cell b5,k.cell b6,k.cell b7,k.cell b8⟩
      have HEQ : Hid (∀ W',W'.heap = wr.heap → W'.os = wr.os → W'.output = wr.output → Calls Tryz.prog 65 #[.agg #[.string xx,.int .i64 xl,.int .i64 xm,.bool xr,.int .i64 xg,vu,vc,vn,vd],.agg #[.string xx,.int .i64 xl,.int .i64 xm,.bool xr,.int .i64 xg,uu,uc,un,ud]] W' fun e w'=>e = .returned (.bool true) ∧ Kb 0 wr w'):=heq
      clear hin heq
      go_wp2_with fail
      go_region_held_law (fun W'=>W'.cell? (qa.add (i * 9)) = some (.string xx) ∧ W'.cell? ⟨(qa.add (i * 9)).block,(qa.add (i * 9)).off + 1,none⟩ = some (.int .i64 xl) ∧ W'.cell? ⟨(qa.add (i * 9)).block,(qa.add (i * 9)).off + 2,none⟩ = some (.int .i64 xm) ∧ W'.cell? ⟨(qa.add (i * 9)).block,(qa.add (i * 9)).off + 3,none⟩ = some (.bool xr) ∧ W'.cell? ⟨(qa.add (i * 9)).block,(qa.add (i * 9)).off + 4,none⟩ = some (.int .i64 xg) ∧ W'.cell? ⟨(qa.add (i * 9)).block,(qa.add (i * 9)).off + 5,none⟩ = some (vu) ∧ W'.cell? ⟨(qa.add (i * 9)).block,(qa.add (i * 9)).off + 6,none⟩ = some (vc) ∧ W'.cell? ⟨(qa.add (i * 9)).block,(qa.add (i * 9)).off + 7,none⟩ = some (vn) ∧ W'.cell? ⟨(qa.add (i * 9)).block,(qa.add (i * 9)).off + 8,none⟩ = some (vd) ∧ W'.cell? (qb.add (i * 9)) = some (.string xx) ∧ W'.cell? ⟨(qb.add (i * 9)).block,(qb.add (i * 9)).off + 1,none⟩ = some (.int .i64 xl) ∧ W'.cell? ⟨(qb.add (i * 9)).block,(qb.add (i * 9)).off + 2,none⟩ = some (.int .i64 xm) ∧ W'.cell? ⟨(qb.add (i * 9)).block,(qb.add (i * 9)).off + 3,none⟩ = some (.bool xr) ∧ W'.cell? ⟨(qb.add (i * 9)).block,(qb.add (i * 9)).off + 4,none⟩ = some (.int .i64 xg) ∧ W'.cell? ⟨(qb.add (i * 9)).block,(qb.add (i * 9)).off + 5,none⟩ = some (uu) ∧ W'.cell? ⟨(qb.add (i * 9)).block,(qb.add (i * 9)).off + 6,none⟩ = some (uc) ∧ W'.cell? ⟨(qb.add (i * 9)).block,(qb.add (i * 9)).off + 7,none⟩ = some (un) ∧ W'.cell? ⟨(qb.add (i * 9)).block,(qb.add (i * 9)).off + 8,none⟩ = some (ud)) (first | exact ⟨a0,a1,a2,a3,a4,a5,a6,a7,a8,b0,b1,b2,b3,b4,b5,b6,b7,b8⟩ | exact (show ∀ (W' : World),_ from HKEEP) _ k5)
        ((go_at_call 65;refine ((show ∀ W',W'.heap = wr.heap → W'.os = wr.os → W'.output = wr.output → Calls Tryz.prog 65 #[.agg #[.string xx,.int .i64 xl,.int .i64 xm,.bool xr,.int .i64 xg,vu,vc,vn,vd],.agg #[.string xx,.int .i64 xl,.int .i64 xm,.bool xr,.int .i64 xg,uu,uc,un,ud]] W' fun e w'=>e = .returned (.bool true) ∧ Kb 0 wr w' from HEQ) _ (by exact rfl) (by exact rfl) (by exact rfl)).mono ?_;rintro e w5 ⟨rfl,k5⟩))
      all_goals
        have HB5 : Hid (Kb 0 w w5):=(show Kb 0 w wr from HB).trans k5
        clear HB HKEEP HEQ k5 a0 a1 a2 a3 a4 a5 a6 a7 a8 b0 b1 b2 b3 b4 b5 b6 b7 b8
        go_wp2_with fail
        go_roundw
        case rel=>exact ⟨i + 1,by go_num,by omega,HB5⟩
        case measure=>simp [intOf];omega
    · obtain rfl : i = n:=by omega
      clear HA
      go_wp2_with fail
      go_ret
      exact ⟨rfl,HB⟩
def BP (F : Nat → Pd) (nf : Nat) : Prop:=∀ i,i < nf → ((F i).x.size : Int) < 140737488355328 ∧ ((F i).u : Int) < 140737488355328 ∧ (((F i).c : Int) < 140737488355328 ∧ ∀ j,j < (F i).c → (((F i).C j).x.size : Int) < 140737488355328) ∧ ((F i).n : Int) < 140737488355328 ∧ (((F i).d : Int) < 140737488355328 ∧ ∀ j,j < (F i).d → (((F i).D j).x.size : Int) < 140737488355328)
def szP (F : Nat → Pd) (i : Nat) : Nat:=(F i).x.size + (F i).u + ((F i).c + sm (fun j=>((F i).C j).x.size) (F i).c) + (F i).n + ((F i).d + sm (fun j=>((F i).D j).x.size) (F i).d)
theorem eq_code0 {va vb : Value} (w : World)
    (g0 : ∀ W',Kb 0 w W' → Calls Tryz.prog 27 #[va,vb] W' fun e w'=>e = .returned (.bool true) ∧ Kb 0 W' w') :
    Calls Tryz.prog 10 #[.agg #[va],.agg #[vb]] w fun e w'=>e = .returned (.bool true) ∧ Kb 0 w w':=by
  have G0 : Hid (∀ W',Kb 0 w W' → Calls Tryz.prog 27 #[va,vb] W' fun e w'=>e = .returned (.bool true) ∧ Kb 0 W' w'):=g0
  clear g0
  skip
  obtain ⟨w2,hw2⟩ : ∃ w2,w2 = (w.alloc (.cells #[va] 30)).alloc (.cells #[vb] 30):=⟨_,rfl⟩
  have k2 : Kb 0 w w2:=by rw [hw2];exact kb_alloc2 _ _ _ _
  have b0 : w2.heap[w.heap.size]? = some (.cells #[va] 30 (0,0)):=by
    rw [hw2,(kb_alloc 0 _ _).block _ (Nat.zero_le _) (by rw [World.size_alloc];omega)]
    exact alloc_new _ _ _
  have b1 : w2.heap[w.heap.size + 1]? = some (.cells #[vb] 30 (0,0)):=by
    have e : (w.alloc (.cells #[va] 30)).heap.size = w.heap.size + 1:=World.size_alloc _ _
    rw [hw2,← e]
    exact alloc_new _ _ _
  have HK : Hid (Kb 0 w w2 ∧ w2.heap[w.heap.size]? = some (.cells #[va] 30 (0,0)) ∧ w2.heap[w.heap.size + 1]? = some (.cells #[vb] 30 (0,0)) ∧ w.heap.size + 1 < w2.heap.size):=(⟨k2,b0,b1,by rw [hw2];simp⟩ : _ ∧ _)
  have HW : Hid (w2 = (w.alloc (.cells #[va] 30)).alloc (.cells #[vb] 30)):=hw2
  clear hw2 k2 b0 b1
  go_enter Tryz.func10,Tryz.ntmps10
  go_wp2_with fail
  rw [← (show w2 = _ from HW)]
  clear HW
  refine ((show ∀ W',Kb 0 w W' → Calls Tryz.prog 27 #[va,vb] W' fun e w'=>e = .returned (.bool true) ∧ Kb 0 W' w' from G0) w2 HK.1).mono ?_
  rintro e x0 ⟨rfl,k0⟩
  have HL : Hid (Kb 0 w x0 ∧ x0.heap[w.heap.size]? = some (.cells #[va] 30 (0,0)) ∧ x0.heap[w.heap.size + 1]? = some (.cells #[vb] 30 (0,0)) ∧ w.heap.size + 1 < x0.heap.size):=by
    obtain ⟨q1,q2,q3,q4⟩:=(show Kb 0 w w2 ∧ w2.heap[w.heap.size]? = some (.cells #[va] 30 (0,0)) ∧ w2.heap[w.heap.size + 1]? = some (.cells #[vb] 30 (0,0)) ∧ w.heap.size + 1 < w2.heap.size from HK)
    have q5:=k0.size
    exact ⟨q1.trans k0,(k0.block _ (Nat.zero_le _) (by omega)).trans q2,(k0.block _ (Nat.zero_le _) (by omega)).trans q3,by omega⟩
  clear HK
  have HK:=HL
  clear HL k0 G0
  go_wp2_with fail
  go_ret
  exact ⟨rfl,HK.1⟩
def strOf : Value → ByteArray
  | .string s=>s
  | _=>⟨#[]⟩
def numOf : Value → Int
  | .int _ z=>z
  | _=>0
def Sz {H : Type} (t : TypeId) (d : DataW H) : Prop:=∀ n ∈ d.weights Tryz.prog t,n ≤ 140737488351232
theorem Sz.head {H : Type} {t e : TypeId} {el sp : List (DataW H)} (h : Sz t (.slice el sp)) (ht : Tryz.prog.underlying t = some (.slice e)) : (el.length + sp.length) * Tryz.prog.bytesOf e ≤ 140737488351232:=h _ (by simp [DataW.weights,ht])
section
variable {H : Type} {enc : TypeId × Value → H} {w : World} {base : Nat} {sp : Nat → Bool} {held : Bool}
def RdP (d : Pd) : Prop:=((d.x.size : Int) < 140737488355328 ∧ (d.u : Int) < 140737488355328 ∧ ((d.c : Int) < 140737488355328 ∧ ∀ j,j < d.c → ((d.C j).x.size : Int) < 140737488355328) ∧ (d.n : Int) < 140737488355328 ∧ ((d.d : Int) < 140737488355328 ∧ ∀ j,j < d.d → ((d.D j).x.size : Int) < 140737488355328)) ∧ (∀ j,j < d.c → (d.C j).g < 18446744073709551616 ∧ -9223372036854775808 ≤ (d.C j).m ∧ (d.C j).m ≤ 9223372036854775807) ∧ -9223372036854775808 ≤ d.g
end
theorem dc_iff {p q : Prop} (h : p ↔ q) : dc p = dc q:=by rw [propext h]
theorem bne {a b : Int} (h : a ≠ b) : (a == b) = false:=by simpa using h
theorem beq1 {a b : Int} (h : a = b) : (a == b) = true:=by simpa using h
def ptb : List (List Nat):=[[0,0,0,0],[1,0,0,0],[2,0,0,0],[0,0,0,0],[12,3,0,0],[12,22,0,0],[13,22,0,0],[12,17,0,0],[17,22,0,0],[12,4,0,0],[4,22,0,0],[12,5,0,0],[12,0,0,0],[16,22,22,0],[16,22,23,0],[12,22,22,0],[22,22,22,0],[12,7,22,0],[12,8,22,22],[6,0,0,0],[22,6,0,0],[22,6,0,0],[14,0,0,0],[18,22,0,0],[18,23,0,0],[12,23,0,0],[12,18,9,0],[14,18,0,0],[14,22,23,0],[23,0,0,0],[22,0,0,0],[6,11,0,0],[0,0,0,0],[10,0,0,0],[10,0,0,0],[22,23,0,0],[0,0,0,0],[19,0,0,0],[19,6,0,0],[19,6,0,0],[21,0,0,0],[20,6,14,0],[15,0,0,0]]
def mtb : List (List Nat):=[[0,0,0,0],[11,0,0,0],[12,0,0,0],[0,0,0,0],[1,7,0,0],[1,2,0,0],[1,2,0,0],[1,5,0,0],[5,2,0,0],[1,8,0,0],[8,2,0,0],[1,9,0,0],[1,0,0,0],[4,2,2,0],[4,2,3,0],[1,2,2,0],[2,2,2,0],[1,15,2,0],[1,16,2,2],[10,0,0,0],[2,10,0,0],[2,10,0,0],[1,0,0,0],[6,2,0,0],[6,3,0,0],[1,3,0,0],[1,6,17,0],[1,6,0,0],[1,2,3,0],[3,0,0,0],[2,0,0,0],[10,14,0,0],[0,0,0,0],[13,0,0,0],[13,0,0,0],[2,3,0,0],[0,0,0,0],[18,0,0,0],[18,10,0,0],[18,10,0,0],[19,0,0,0],[20,10,1,0],[21,0,0,0]]
def pr (o j : Nat) : Nat:=(ptb.getD o []).getD j 0
def mr (o j : Nat) : Nat:=(mtb.getD o []).getD j 0
def pcl (r : Nat) : Nat:=([0,1,2,3,4,5,6,7,8,9,10,11,12,12,12,12,12,12,12,13,11,11,14,14] : List Nat).getD r 0
def mcl (r : Nat) : Nat:=([0,12,14,14,12,12,12,3,4,5,6,1,2,10,11,7,8,9,13,11,11,12] : List Nat).getD r 0
theorem cl_eq0 : ∀ o,o < 43 → ∀ j,j < 4 → pcl (pr o j) = mcl (mr o j) ∧ pr o j < 24 ∧ mr o j < 22:=by decide
def rg (np : Nat) (q : Pd) (c : Nat) : Int × Int :=
  match c with
  | 0=>(0,0)
  | 1=>(1,100000)
  | 2=>(0,100000)
  | 3=>(0,(q.c : Int) - 1)
  | 4=>(0,(q.u : Int) - 1)
  | 5=>(0,(np : Int) - 1)
  | 6=>(0,(q.n : Int) - 1)
  | 7=>(19,22)
  | 8=>(1,18)
  | 9=>(0,250)
  | 10=>(0,q.g)
  | 11=>(0,q.g - 2)
  | 12=>(0,q.g - 1)
  | 13=>(0,q.g - 3)
  | _=>(-q.g,q.g - 1)
def Fit (np : Nat) (q : Pd) (c : Nat) (x : Int) : Prop:=(rg np q c).1 ≤ x ∧ x ≤ (rg np q c).2
def fld (v : Iv) (j : Nat) : Int:=match j with | 0=>v.a | 1=>v.b | 2=>v.c | _=>v.d
def Tok (np : Nat) (q : Pd) (v : Iv) : Prop:=1 ≤ v.o ∧ v.o ≤ 42 ∧ ∀ j,j < 4 → Fit np q (pcl (pr v.o.toNat j)) (fld v j)
def Ends (o : Int) : Prop:=o = 19 ∨ o = 29 ∨ o = 30
def Iok (np : Nat) (q : Pd) (i : Nat) : Prop:=Tok np q (q.N i) ∧ (i + 1 = q.n → Ends (q.N i).o)
def Hd (p : Nat) (d : Pd) : Prop:=d.x.size ≤ 40 ∧ (0 ≤ d.l ∧ d.l ≤ 100000) ∧ (0 ≤ d.g ∧ d.g ≤ 250) ∧ (0 ≤ d.m ∧ d.m ≤ (if d.r = true then d.g - 1 else d.g)) ∧ d.u ≤ 250 ∧ d.c ≤ 500 ∧ (0 < p ∨ (d.m = 0 ∧ d.u = 0))
def Cok (v : Vv) : Prop:=vok v ∧ (v.k ≠ 5 ∧ v.k ≠ 6 ∧ v.k ≠ 7) ∧ (v.k = 3 → FloatKind.f64.format.order v.g v.g = some .eq) ∧ (v.k ≠ 3 → v.g = 0)
def Nok (d : Pd) (i : Nat) : Prop:=i < 500 ∧ (1 ≤ (d.D i).x.size ∧ (d.D i).x.size ≤ 40) ∧ (0 ≤ (d.D i).g ∧ (d.D i).g ≤ d.g - 1) ∧ 0 ≤ (d.D i).f ∧ (d.D i).f ≤ (d.D i).t ∧ (d.D i).t ≤ (d.n : Int)
def Uok (d : Pd) (e : Pd) : Prop:=∀ j,j < e.u → 0 ≤ (e.U j).2 ∧ (e.U j).2 < (if (e.U j).1 = true then d.g else (d.u : Int))
theorem sp_roles0 : ∀ (n : Nat),1 ≤ n → n ≤ 14 → ∀ (w : World),Calls Tryz.prog 133 #[.int .i64 (n : Int)] w fun e w'=>e = .returned (.slice (some ⟨w.heap.size,0,none⟩) 4 4) ∧ w' = w.alloc (.cells #[.int .i64 (mr n 0 : Int),.int .i64 (mr n 1 : Int),.int .i64 (mr n 2 : Int),.int .i64 (mr n 3 : Int)] 3):=by
  intro n h1 h2 w
  rcases (by omega : n = 1 ∨ n = 2 ∨ n = 3 ∨ n = 4 ∨ n = 5 ∨ n = 6 ∨ n = 7 ∨ n = 8 ∨ n = 9 ∨ n = 10 ∨ n = 11 ∨ n = 12 ∨ n = 13 ∨ n = 14) with rfl | rfl | rfl | rfl | rfl | rfl | rfl | rfl | rfl | rfl | rfl | rfl | rfl | rfl
  all_goals
    clear h1 h2
    go_enter Tryz.func133,Tryz.ntmps133
    go_wp2_with fail
    go_ret
    exact ⟨rfl,rfl⟩
theorem sp_roles1 : ∀ (n : Nat),15 ≤ n → n ≤ 28 → ∀ (w : World),Calls Tryz.prog 133 #[.int .i64 (n : Int)] w fun e w'=>e = .returned (.slice (some ⟨w.heap.size,0,none⟩) 4 4) ∧ w' = w.alloc (.cells #[.int .i64 (mr n 0 : Int),.int .i64 (mr n 1 : Int),.int .i64 (mr n 2 : Int),.int .i64 (mr n 3 : Int)] 3):=by
  intro n h1 h2 w
  rcases (by omega : n = 15 ∨ n = 16 ∨ n = 17 ∨ n = 18 ∨ n = 19 ∨ n = 20 ∨ n = 21 ∨ n = 22 ∨ n = 23 ∨ n = 24 ∨ n = 25 ∨ n = 26 ∨ n = 27 ∨ n = 28) with rfl | rfl | rfl | rfl | rfl | rfl | rfl | rfl | rfl | rfl | rfl | rfl | rfl | rfl
  all_goals
    clear h1 h2
    go_enter Tryz.func133,Tryz.ntmps133
    go_wp2_with fail
    go_ret
    exact ⟨rfl,rfl⟩
theorem sp_roles2 : ∀ (n : Nat),29 ≤ n → n ≤ 42 → ∀ (w : World),Calls Tryz.prog 133 #[.int .i64 (n : Int)] w fun e w'=>e = .returned (.slice (some ⟨w.heap.size,0,none⟩) 4 4) ∧ w' = w.alloc (.cells #[.int .i64 (mr n 0 : Int),.int .i64 (mr n 1 : Int),.int .i64 (mr n 2 : Int),.int .i64 (mr n 3 : Int)] 3):=by
  intro n h1 h2 w
  rcases (by omega : n = 29 ∨ n = 30 ∨ n = 31 ∨ n = 32 ∨ n = 33 ∨ n = 34 ∨ n = 35 ∨ n = 36 ∨ n = 37 ∨ n = 38 ∨ n = 39 ∨ n = 40 ∨ n = 41 ∨ n = 42) with rfl | rfl | rfl | rfl | rfl | rfl | rfl | rfl | rfl | rfl | rfl | rfl | rfl | rfl
  all_goals
    clear h1 h2
    go_enter Tryz.func133,Tryz.ntmps133
    go_wp2_with fail
    go_ret
    exact ⟨rfl,rfl⟩
end Go.Proofs.YtnmeemjoodoalaaGreatDoor.Fo
