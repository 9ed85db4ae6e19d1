import Derived.Test.YtnmeemjoodoalaaGreatDoorMCbb
set_option maxHeartbeats 8000000
namespace Go.Proofs.YtnmeemjoodoalaaGreatDoor.Fo
open Go.ChangeShapes Go.WideShapes Go.ChangeAt Go.RowKit
set_option linter.unusedVariables false
set_option maxRecDepth 100000
theorem to_up (a : Bool × Int) (w : World) : Calls Tryz.prog 135 #[upv a] w fun e w'=>e = .returned (upv a) ∧ Kb 0 w w':=by
  unfold upv
  go_enter Tryz.func135,Tryz.ntmps135
  go_wp2_with fail
  refine bodyPost_ret (by simp [results,Tryz.results135,go_sem];rfl) rfl ?_
  exact ⟨rfl,kb_alloc3 _ _ _ _ _⟩
theorem to_ins (a : Iv) (w : World) : Calls Tryz.prog 137 #[insv a] w fun e w'=>e = .returned (insv a) ∧ Kb 0 w w':=by
  unfold insv
  go_enter Tryz.func137,Tryz.ntmps137
  go_wp2_with fail
  refine bodyPost_ret (by simp [results,Tryz.results137,go_sem];rfl) rfl ?_
  exact ⟨rfl,kb_alloc3 _ _ _ _ _⟩
theorem to_nam (a : Mv) (w : World) : Calls Tryz.prog 138 #[namv a] w fun e w'=>e = .returned (namv a) ∧ Kb 0 w w':=by
  unfold namv
  go_enter Tryz.func138,Tryz.ntmps138
  go_wp2_with fail
  refine bodyPost_ret (by simp [results,Tryz.results138,go_sem];rfl) rfl ?_
  exact ⟨rfl,kb_alloc3 _ _ _ _ _⟩
theorem to_valu (a : Vv) (w : World) : Calls Tryz.prog 136 #[valv a] w fun e w'=>e = .returned (valv a) ∧ Kb 0 w w':=by
  unfold valv
  have hst : ∀ (a : Addr) (n : Nat) (m : Mode) (w : World),(store a (.float .f64 n) m).run Tryz.prog w = stored Tryz.prog w a (.float .f64 n) m:=fun a n m w=>run_store _ _ _ _ _ rfl
  go_enter Tryz.func136,Tryz.ntmps136
  go_wp2_with fail
  refine bodyPost_ret (by simp [results,Tryz.results136,go_sem];rfl) rfl ?_
  exact ⟨rfl,kb_alloc3 _ _ _ _ _⟩
theorem to_ups {va : Value} {n : Nat} {U : Nat → Bool × Int} (w : World) (ha : RowU 0 w va n U) (hn : n ≤ 1048576)  :
    Calls Tryz.prog 101 #[va] w fun e w'=>∃ v,e = .returned v ∧ RowU w.heap.size w' v n U ∧ Kb 0 w w':=by
  obtain ⟨pa,ca,rfl,ha2⟩:=ha
  have hnI : (n : Int) ≤ 1048576:=by omega
  have hmk:=run_make (P:=Tryz.prog) w 45 89 Tryz.t89 (.agg #[.bool false,.int .i64 0]) Tryz.underlying45 (by kernel_rfl) (by kernel_rfl) .i64 .i64 (n : Int) (n : Int) (by omega) (Int.le_refl _) (by show (16 : Int) * (n : Int) ≤ _;omega) (by omega)
  rw [Int.toNat_natCast] at hmk
  obtain ⟨w1,hw1⟩ : ∃ w1,w1 = w.alloc (.cells (madeCells (.agg #[.bool false,.int .i64 0] : Value).cells (n * 2)) 89):=⟨_,rfl⟩
  have hmk2:=hmk
  rw [show n * Tryz.t89.size = n * 2 from rfl,← hw1] at hmk2
  clear hmk
  have hk1 : Kb 0 w w1:=by rw [hw1];exact kb_alloc _ _ _
  obtain ⟨G,hG⟩ : ∃ G,G = w.heap.size:=⟨_,rfl⟩
  have HI0 : Hid (∃ E : Nat → List Value,Mk 2 w1 G n E 0 w1 ∧ ∀ j,j < 0 → E j = [.bool (U j).1,.int .i64 (U j).2]):=by
    refine ⟨fun _=>[],?_,fun j hj=>by omega⟩
    rw [hG,hw1]
    exact mk_zero w _ 2 _ n _ rfl
  have HA : Hid ((0 < n → ∃ a : Addr,pa = some a ∧ n ≤ ca ∧ 0 ≤ a.block ∧ ∀ i,i < n → UpC 0 w (a.add (i * 2)) (U i)) ∧ Kb 0 w w1 ∧ G = w.heap.size):=(⟨ha2,hk1,hG⟩ : _ ∧ _)
  rw [← hG] at hmk2
  clear ha2 hk1 hw1 hn hG
  go_enter Tryz.func101,Tryz.ntmps101
  go_wp2_with fail
  go_loopw [4] (fun s4 wr=>∃ i : Nat,s4 = .int .i64 (i : Int) ∧ i ≤ n ∧ Hid (∃ E : Nat → List Value,Mk 2 w1 G n E i wr ∧ ∀ j,j < i → E j = [.bool (U j).1,.int .i64 (U j).2])) (fun s4 _=>n - (intOf s4).toNat)
  case atStart=>exact ⟨0,rfl,Nat.zero_le _,HI0⟩
  case round =>
    clear HI0 hmk2
    obtain ⟨i,rfl,hin,HI⟩:=hrel
    obtain ⟨E,hM,hR⟩:=(show ∃ E : Nat → List Value,Mk 2 w1 G n E i wr ∧ ∀ j,j < i → E j = [.bool (U j).1,.int .i64 (U j).2] from HI)
    have hA:=(show (0 < n → ∃ a : Addr,pa = some a ∧ n ≤ ca ∧ 0 ≤ a.block ∧ ∀ i,i < n → UpC 0 w (a.add (i * 2)) (U i)) ∧ Kb 0 w w1 ∧ G = w.heap.size from HA)
    have hBW : Kb 0 w wr:=by
      have hG:=hA.2.2
      have hA2:=hA.2.1
      exact ⟨hM.os.trans hA2.os,hM.output.trans hA2.output,Nat.le_trans hA2.size hM.size,fun b _ hb=>(hM.block b (Nat.lt_of_lt_of_le hb hA2.size) (by omega)).trans (hA2.block b (Nat.zero_le _) hb)⟩
    rcases Nat.lt_or_ge i n with hi | hi
    · have hiI : (i : Int) < (n : Int):=by omega
      obtain ⟨a,rfl,hca,_,hra⟩:=hA.1 (by omega)
      obtain ⟨d0,d1⟩:=(hra i hi).keep (Nat.zero_le _) hBW
      have HT : Hid (Calls Tryz.prog 135 #[upv (U i)] wr fun e w'=>e = .returned (upv (U i)) ∧ Kb 0 wr w'):=to_up (U i) wr
      have HS : Hid (∀ w6 ,Kb 0 wr w6 → (∀ t,t < 2 → ∃ u,w6.cell? ⟨G,i * 2 + t,none⟩ = some u) ∧ (∀ j,w6.frozen? ⟨G,j,none⟩ = false) ∧ ∃ E : Nat → List Value,Mk 2 w1 G n E (i + 1) (setL w6 G (i * 2) [.bool (U i).1,.int .i64 (U i).2]) ∧ ∀ j,j < i + 1 → E j = [.bool (U j).1,.int .i64 (U j).2]):=by
        show ∀ w6 ,_
        intro w6  k6
        have h6:=hM.kb k6
        have hgl:=Nat.lt_of_lt_of_le hM.gl hM.size
        have kl : Kb (G + 1) w6 (setL w6 G (i * 2) [.bool (U i).1,.int .i64 (U i).2]):=⟨(setL_os _ _ _ _).1,(setL_os _ _ _ _).2,by rw [setL_size];exact Nat.le_refl _,fun k h1 _=>setL_block _ _ (by omega) _ _ _⟩
        refine ⟨h6.rest i (Nat.le_refl _) hi,h6.fz,_,h6.step hi rfl,fun j hj=>?_⟩
        by_cases e : j = i
        · subst e
          exact if_pos rfl
        · rw [if_neg e]
          exact hR j (by omega)
      clear hA HA hM hR HI hra hin hBW
      go_wp2_with fail
      refine (show Calls Tryz.prog 135 #[upv (U i)] wr fun e w'=>e = .returned (upv (U i)) ∧ Kb 0 wr w' from HT).mono ?_
      rintro e w6 ⟨rfl,k6⟩
      obtain ⟨hc,hf,hT⟩:=(show ∀ w6 ,_ from HS) w6 k6
      have HTT : Hid (∃ E : Nat → List Value,Mk 2 w1 G n E (i + 1) (setL w6 G (i * 2) [.bool (U i).1,.int .i64 (U i).2]) ∧ ∀ j,j < i + 1 → E j = [.bool (U j).1,.int .i64 (U j).2]):=hT
      obtain ⟨u0,h0⟩:=hc 0 (by omega)
      obtain ⟨u1,h1⟩:=hc 1 (by omega)
      rw [Nat.add_zero] at h0
      have e0:=hf (i * 2)
      have e1:=hf (i * 2 + 1)
      clear hc hf hT HS HT
      skip
      clear k6 d0 d1
      unfold upv
      go_wp2_with fail
      go_roundw
      case rel=>exact ⟨i + 1,by go_num,by omega,HTT⟩
      case measure=>simp [intOf];omega
    · obtain rfl : i = n:=by omega
      have HE : Hid (Mk 2 w1 G i E i wr ∧ (∀ j,j < i → E j = [.bool (U j).1,.int .i64 (U j).2]) ∧ Kb 0 w wr ∧ G = w.heap.size):=(⟨hM,hR,hBW,hA.2.2⟩ : _ ∧ _ ∧ _ ∧ _)
      clear HI hM hR hA HA hBW
      go_wp2_with fail
      go_ret
      obtain ⟨hM,hR,hB,hG⟩:=(show Mk 2 w1 G i E i wr ∧ (∀ j,j < i → E j = [.bool (U j).1,.int .i64 (U j).2]) ∧ Kb 0 w wr ∧ G = w.heap.size from HE)
      refine ⟨_,rfl,⟨_,_,rfl,fun _=>⟨⟨G,0,none⟩,rfl,Nat.le_refl _,(by show w.heap.size ≤ G;omega),fun j hj=>?_⟩⟩,hB⟩
      rw [addr0]
      have hce:=hM.ce j hj
      rw [hR j hj] at hce
      exact CelU.of hce
theorem to_inss {va : Value} {n : Nat} {N : Nat → Iv} (w : World) (ha : RowI 0 w va n N) (hn : n ≤ 1048576)  :
    Calls Tryz.prog 103 #[va] w fun e w'=>∃ v,e = .returned v ∧ RowI w.heap.size w' v n N ∧ Kb 0 w w':=by
  obtain ⟨pa,ca,rfl,ha2⟩:=ha
  have hnI : (n : Int) ≤ 1048576:=by omega
  have hmk:=run_make (P:=Tryz.prog) w 47 81 Tryz.t81 (.agg #[.int .i64 0,.int .i64 0,.int .i64 0,.int .i64 0,.int .i64 0]) Tryz.underlying47 (by kernel_rfl) (by kernel_rfl) .i64 .i64 (n : Int) (n : Int) (by omega) (Int.le_refl _) (by show (40 : Int) * (n : Int) ≤ _;omega) (by omega)
  rw [Int.toNat_natCast] at hmk
  obtain ⟨w1,hw1⟩ : ∃ w1,w1 = w.alloc (.cells (madeCells (.agg #[.int .i64 0,.int .i64 0,.int .i64 0,.int .i64 0,.int .i64 0] : Value).cells (n * 5)) 81):=⟨_,rfl⟩
  have hmk2:=hmk
  rw [show n * Tryz.t81.size = n * 5 from rfl,← hw1] at hmk2
  clear hmk
  have hk1 : Kb 0 w w1:=by rw [hw1];exact kb_alloc _ _ _
  obtain ⟨G,hG⟩ : ∃ G,G = w.heap.size:=⟨_,rfl⟩
  have HI0 : Hid (∃ E : Nat → List Value,Mk 5 w1 G n E 0 w1 ∧ ∀ j,j < 0 → E j = [.int .i64 (N j).o,.int .i64 (N j).a,.int .i64 (N j).b,.int .i64 (N j).c,.int .i64 (N j).d]):=by
    refine ⟨fun _=>[],?_,fun j hj=>by omega⟩
    rw [hG,hw1]
    exact mk_zero w _ 5 _ n _ rfl
  have HA : Hid ((0 < n → ∃ a : Addr,pa = some a ∧ n ≤ ca ∧ 0 ≤ a.block ∧ ∀ i,i < n → InsC 0 w (a.add (i * 5)) (N i)) ∧ Kb 0 w w1 ∧ G = w.heap.size):=(⟨ha2,hk1,hG⟩ : _ ∧ _)
  rw [← hG] at hmk2
  clear ha2 hk1 hw1 hn hG
  go_enter Tryz.func103,Tryz.ntmps103
  go_wp2_with fail
  go_loopw [4] (fun s4 wr=>∃ i : Nat,s4 = .int .i64 (i : Int) ∧ i ≤ n ∧ Hid (∃ E : Nat → List Value,Mk 5 w1 G n E i wr ∧ ∀ j,j < i → E j = [.int .i64 (N j).o,.int .i64 (N j).a,.int .i64 (N j).b,.int .i64 (N j).c,.int .i64 (N j).d])) (fun s4 _=>n - (intOf s4).toNat)
  case atStart=>exact ⟨0,rfl,Nat.zero_le _,HI0⟩
  case round =>
    clear HI0 hmk2
    obtain ⟨i,rfl,hin,HI⟩:=hrel
    obtain ⟨E,hM,hR⟩:=(show ∃ E : Nat → List Value,Mk 5 w1 G n E i wr ∧ ∀ j,j < i → E j = [.int .i64 (N j).o,.int .i64 (N j).a,.int .i64 (N j).b,.int .i64 (N j).c,.int .i64 (N j).d] from HI)
    have hA:=(show (0 < n → ∃ a : Addr,pa = some a ∧ n ≤ ca ∧ 0 ≤ a.block ∧ ∀ i,i < n → InsC 0 w (a.add (i * 5)) (N i)) ∧ Kb 0 w w1 ∧ G = w.heap.size from HA)
    have hBW : Kb 0 w wr:=by
      have hG:=hA.2.2
      have hA2:=hA.2.1
      exact ⟨hM.os.trans hA2.os,hM.output.trans hA2.output,Nat.le_trans hA2.size hM.size,fun b _ hb=>(hM.block b (Nat.lt_of_lt_of_le hb hA2.size) (by omega)).trans (hA2.block b (Nat.zero_le _) hb)⟩
    rcases Nat.lt_or_ge i n with hi | hi
    · have hiI : (i : Int) < (n : Int):=by omega
      obtain ⟨a,rfl,hca,_,hra⟩:=hA.1 (by omega)
      obtain ⟨d0,d1,d2,d3,d4⟩:=(hra i hi).keep (Nat.zero_le _) hBW
      have HT : Hid (Calls Tryz.prog 137 #[insv (N i)] wr fun e w'=>e = .returned (insv (N i)) ∧ Kb 0 wr w'):=to_ins (N i) wr
      have HS : Hid (∀ w6 ,Kb 0 wr w6 → (∀ t,t < 5 → ∃ u,w6.cell? ⟨G,i * 5 + t,none⟩ = some u) ∧ (∀ j,w6.frozen? ⟨G,j,none⟩ = false) ∧ ∃ E : Nat → List Value,Mk 5 w1 G n E (i + 1) (setL w6 G (i * 5) [.int .i64 (N i).o,.int .i64 (N i).a,.int .i64 (N i).b,.int .i64 (N i).c,.int .i64 (N i).d]) ∧ ∀ j,j < i + 1 → E j = [.int .i64 (N j).o,.int .i64 (N j).a,.int .i64 (N j).b,.int .i64 (N j).c,.int .i64 (N j).d]):=by
        show ∀ w6 ,_
        intro w6  k6
        have h6:=hM.kb k6
        have hgl:=Nat.lt_of_lt_of_le hM.gl hM.size
        have kl : Kb (G + 1) w6 (setL w6 G (i * 5) [.int .i64 (N i).o,.int .i64 (N i).a,.int .i64 (N i).b,.int .i64 (N i).c,.int .i64 (N i).d]):=⟨(setL_os _ _ _ _).1,(setL_os _ _ _ _).2,by rw [setL_size];exact Nat.le_refl _,fun k h1 _=>setL_block _ _ (by omega) _ _ _⟩
        refine ⟨h6.rest i (Nat.le_refl _) hi,h6.fz,_,h6.step hi rfl,fun j hj=>?_⟩
        by_cases e : j = i
        · subst e
          exact if_pos rfl
        · rw [if_neg e]
          exact hR j (by omega)
      clear hA HA hM hR HI hra hin hBW
      go_wp2_with fail
      refine (show Calls Tryz.prog 137 #[insv (N i)] wr fun e w'=>e = .returned (insv (N i)) ∧ Kb 0 wr w' from HT).mono ?_
      rintro e w6 ⟨rfl,k6⟩
      obtain ⟨hc,hf,hT⟩:=(show ∀ w6 ,_ from HS) w6 k6
      have HTT : Hid (∃ E : Nat → List Value,Mk 5 w1 G n E (i + 1) (setL w6 G (i * 5) [.int .i64 (N i).o,.int .i64 (N i).a,.int .i64 (N i).b,.int .i64 (N i).c,.int .i64 (N i).d]) ∧ ∀ j,j < i + 1 → E j = [.int .i64 (N j).o,.int .i64 (N j).a,.int .i64 (N j).b,.int .i64 (N j).c,.int .i64 (N j).d]):=hT
      obtain ⟨u0,h0⟩:=hc 0 (by omega)
      obtain ⟨u1,h1⟩:=hc 1 (by omega)
      obtain ⟨u2,h2⟩:=hc 2 (by omega)
      obtain ⟨u3,h3⟩:=hc 3 (by omega)
      obtain ⟨u4,h4⟩:=hc 4 (by omega)
      rw [Nat.add_zero] at h0
      have e0:=hf (i * 5)
      have e1:=hf (i * 5 + 1)
      have e2:=hf (i * 5 + 2)
      have e3:=hf (i * 5 + 3)
      have e4:=hf (i * 5 + 4)
      clear hc hf hT HS HT
      skip
      clear k6 d0 d1 d2 d3 d4
      unfold insv
      go_wp2_with fail
      go_roundw
      case rel=>exact ⟨i + 1,by go_num,by omega,HTT⟩
      case measure=>simp [intOf];omega
    · obtain rfl : i = n:=by omega
      have HE : Hid (Mk 5 w1 G i E i wr ∧ (∀ j,j < i → E j = [.int .i64 (N j).o,.int .i64 (N j).a,.int .i64 (N j).b,.int .i64 (N j).c,.int .i64 (N j).d]) ∧ Kb 0 w wr ∧ G = w.heap.size):=(⟨hM,hR,hBW,hA.2.2⟩ : _ ∧ _ ∧ _ ∧ _)
      clear HI hM hR hA HA hBW
      go_wp2_with fail
      go_ret
      obtain ⟨hM,hR,hB,hG⟩:=(show Mk 5 w1 G i E i wr ∧ (∀ j,j < i → E j = [.int .i64 (N j).o,.int .i64 (N j).a,.int .i64 (N j).b,.int .i64 (N j).c,.int .i64 (N j).d]) ∧ Kb 0 w wr ∧ G = w.heap.size from HE)
      refine ⟨_,rfl,⟨_,_,rfl,fun _=>⟨⟨G,0,none⟩,rfl,Nat.le_refl _,(by show w.heap.size ≤ G;omega),fun j hj=>?_⟩⟩,hB⟩
      rw [addr0]
      have hce:=hM.ce j hj
      rw [hR j hj] at hce
      exact CelI.of hce
theorem to_nams {va : Value} {n : Nat} {D : Nat → Mv} (w : World) (ha : RowM 0 w va n D) (hn : n ≤ 1048576)  :
    Calls Tryz.prog 104 #[va] w fun e w'=>∃ v,e = .returned v ∧ RowM w.heap.size w' v n D ∧ Kb 0 w w':=by
  obtain ⟨pa,ca,rfl,ha2⟩:=ha
  have hnI : (n : Int) ≤ 1048576:=by omega
  have hmk:=run_make (P:=Tryz.prog) w 48 97 Tryz.t97 (.agg #[.string ⟨#[]⟩,.int .i64 0,.int .i64 0,.int .i64 0]) Tryz.underlying48 (by kernel_rfl) (by kernel_rfl) .i64 .i64 (n : Int) (n : Int) (by omega) (Int.le_refl _) (by show (40 : Int) * (n : Int) ≤ _;omega) (by omega)
  rw [Int.toNat_natCast] at hmk
  obtain ⟨w1,hw1⟩ : ∃ w1,w1 = w.alloc (.cells (madeCells (.agg #[.string ⟨#[]⟩,.int .i64 0,.int .i64 0,.int .i64 0] : Value).cells (n * 4)) 97):=⟨_,rfl⟩
  have hmk2:=hmk
  rw [show n * Tryz.t97.size = n * 4 from rfl,← hw1] at hmk2
  clear hmk
  have hk1 : Kb 0 w w1:=by rw [hw1];exact kb_alloc _ _ _
  obtain ⟨G,hG⟩ : ∃ G,G = w.heap.size:=⟨_,rfl⟩
  have HI0 : Hid (∃ E : Nat → List Value,Mk 4 w1 G n E 0 w1 ∧ ∀ j,j < 0 → E j = [.string (D j).x,.int .i64 (D j).g,.int .i64 (D j).f,.int .i64 (D j).t]):=by
    refine ⟨fun _=>[],?_,fun j hj=>by omega⟩
    rw [hG,hw1]
    exact mk_zero w _ 4 _ n _ rfl
  have HA : Hid ((0 < n → ∃ a : Addr,pa = some a ∧ n ≤ ca ∧ 0 ≤ a.block ∧ ∀ i,i < n → NamC 0 w (a.add (i * 4)) (D i)) ∧ Kb 0 w w1 ∧ G = w.heap.size):=(⟨ha2,hk1,hG⟩ : _ ∧ _)
  rw [← hG] at hmk2
  clear ha2 hk1 hw1 hn hG
  go_enter Tryz.func104,Tryz.ntmps104
  go_wp2_with fail
  go_loopw [4] (fun s4 wr=>∃ i : Nat,s4 = .int .i64 (i : Int) ∧ i ≤ n ∧ Hid (∃ E : Nat → List Value,Mk 4 w1 G n E i wr ∧ ∀ j,j < i → E j = [.string (D j).x,.int .i64 (D j).g,.int .i64 (D j).f,.int .i64 (D j).t])) (fun s4 _=>n - (intOf s4).toNat)
  case atStart=>exact ⟨0,rfl,Nat.zero_le _,HI0⟩
  case round =>
    clear HI0 hmk2
    obtain ⟨i,rfl,hin,HI⟩:=hrel
    obtain ⟨E,hM,hR⟩:=(show ∃ E : Nat → List Value,Mk 4 w1 G n E i wr ∧ ∀ j,j < i → E j = [.string (D j).x,.int .i64 (D j).g,.int .i64 (D j).f,.int .i64 (D j).t] from HI)
    have hA:=(show (0 < n → ∃ a : Addr,pa = some a ∧ n ≤ ca ∧ 0 ≤ a.block ∧ ∀ i,i < n → NamC 0 w (a.add (i * 4)) (D i)) ∧ Kb 0 w w1 ∧ G = w.heap.size from HA)
    have hBW : Kb 0 w wr:=by
      have hG:=hA.2.2
      have hA2:=hA.2.1
      exact ⟨hM.os.trans hA2.os,hM.output.trans hA2.output,Nat.le_trans hA2.size hM.size,fun b _ hb=>(hM.block b (Nat.lt_of_lt_of_le hb hA2.size) (by omega)).trans (hA2.block b (Nat.zero_le _) hb)⟩
    rcases Nat.lt_or_ge i n with hi | hi
    · have hiI : (i : Int) < (n : Int):=by omega
      obtain ⟨a,rfl,hca,_,hra⟩:=hA.1 (by omega)
      obtain ⟨d0,d1,d2,d3⟩:=(hra i hi).keep (Nat.zero_le _) hBW
      have HT : Hid (Calls Tryz.prog 138 #[namv (D i)] wr fun e w'=>e = .returned (namv (D i)) ∧ Kb 0 wr w'):=to_nam (D i) wr
      have HS : Hid (∀ w6 ,Kb 0 wr w6 → (∀ t,t < 4 → ∃ u,w6.cell? ⟨G,i * 4 + t,none⟩ = some u) ∧ (∀ j,w6.frozen? ⟨G,j,none⟩ = false) ∧ ∃ E : Nat → List Value,Mk 4 w1 G n E (i + 1) (setL w6 G (i * 4) [.string (D i).x,.int .i64 (D i).g,.int .i64 (D i).f,.int .i64 (D i).t]) ∧ ∀ j,j < i + 1 → E j = [.string (D j).x,.int .i64 (D j).g,.int .i64 (D j).f,.int .i64 (D j).t]):=by
        show ∀ w6 ,_
        intro w6  k6
        have h6:=hM.kb k6
        have hgl:=Nat.lt_of_lt_of_le hM.gl hM.size
        have kl : Kb (G + 1) w6 (setL w6 G (i * 4) [.string (D i).x,.int .i64 (D i).g,.int .i64 (D i).f,.int .i64 (D i).t]):=⟨(setL_os _ _ _ _).1,(setL_os _ _ _ _).2,by rw [setL_size];exact Nat.le_refl _,fun k h1 _=>setL_block _ _ (by omega) _ _ _⟩
        refine ⟨h6.rest i (Nat.le_refl _) hi,h6.fz,_,h6.step hi rfl,fun j hj=>?_⟩
        by_cases e : j = i
        · subst e
          exact if_pos rfl
        · rw [if_neg e]
          exact hR j (by omega)
      clear hA HA hM hR HI hra hin hBW
      go_wp2_with fail
      refine (show Calls Tryz.prog 138 #[namv (D i)] wr fun e w'=>e = .returned (namv (D i)) ∧ Kb 0 wr w' from HT).mono ?_
      rintro e w6 ⟨rfl,k6⟩
      obtain ⟨hc,hf,hT⟩:=(show ∀ w6 ,_ from HS) w6 k6
      have HTT : Hid (∃ E : Nat → List Value,Mk 4 w1 G n E (i + 1) (setL w6 G (i * 4) [.string (D i).x,.int .i64 (D i).g,.int .i64 (D i).f,.int .i64 (D i).t]) ∧ ∀ j,j < i + 1 → E j = [.string (D j).x,.int .i64 (D j).g,.int .i64 (D j).f,.int .i64 (D j).t]):=hT
      obtain ⟨u0,h0⟩:=hc 0 (by omega)
      obtain ⟨u1,h1⟩:=hc 1 (by omega)
      obtain ⟨u2,h2⟩:=hc 2 (by omega)
      obtain ⟨u3,h3⟩:=hc 3 (by omega)
      rw [Nat.add_zero] at h0
      have e0:=hf (i * 4)
      have e1:=hf (i * 4 + 1)
      have e2:=hf (i * 4 + 2)
      have e3:=hf (i * 4 + 3)
      clear hc hf hT HS HT
      skip
      clear k6 d0 d1 d2 d3
      unfold namv
      go_wp2_with fail
      go_roundw
      case rel=>exact ⟨i + 1,by go_num,by omega,HTT⟩
      case measure=>simp [intOf];omega
    · obtain rfl : i = n:=by omega
      have HE : Hid (Mk 4 w1 G i E i wr ∧ (∀ j,j < i → E j = [.string (D j).x,.int .i64 (D j).g,.int .i64 (D j).f,.int .i64 (D j).t]) ∧ Kb 0 w wr ∧ G = w.heap.size):=(⟨hM,hR,hBW,hA.2.2⟩ : _ ∧ _ ∧ _ ∧ _)
      clear HI hM hR hA HA hBW
      go_wp2_with fail
      go_ret
      obtain ⟨hM,hR,hB,hG⟩:=(show Mk 4 w1 G i E i wr ∧ (∀ j,j < i → E j = [.string (D j).x,.int .i64 (D j).g,.int .i64 (D j).f,.int .i64 (D j).t]) ∧ Kb 0 w wr ∧ G = w.heap.size from HE)
      refine ⟨_,rfl,⟨_,_,rfl,fun _=>⟨⟨G,0,none⟩,rfl,Nat.le_refl _,(by show w.heap.size ≤ G;omega),fun j hj=>?_⟩⟩,hB⟩
      rw [addr0]
      have hce:=hM.ce j hj
      rw [hR j hj] at hce
      exact CelM.of hce
theorem to_vals {va : Value} {n : Nat} {C : Nat → Vv} (w : World) (ha : RowW 0 w va n C) (hn : n ≤ 1048576)  :
    Calls Tryz.prog 102 #[va] w fun e w'=>∃ v,e = .returned v ∧ RowW w.heap.size w' v n C ∧ Kb 0 w w':=by
  obtain ⟨pa,ca,rfl,ha2⟩:=ha
  have hnI : (n : Int) ≤ 1048576:=by omega
  have hmk:=run_make (P:=Tryz.prog) w 46 92 Tryz.t92 (.agg #[.int .i64 0,.int .i64 0,.float .f64 0,.string ⟨#[]⟩,.int .i64 0]) Tryz.underlying46 (by kernel_rfl) (by kernel_rfl) .i64 .i64 (n : Int) (n : Int) (by omega) (Int.le_refl _) (by show (48 : Int) * (n : Int) ≤ _;omega) (by omega)
  rw [Int.toNat_natCast] at hmk
  obtain ⟨w1,hw1⟩ : ∃ w1,w1 = w.alloc (.cells (madeCells (.agg #[.int .i64 0,.int .i64 0,.float .f64 0,.string ⟨#[]⟩,.int .i64 0] : Value).cells (n * 5)) 92):=⟨_,rfl⟩
  have hmk2:=hmk
  rw [show n * Tryz.t92.size = n * 5 from rfl,← hw1] at hmk2
  clear hmk
  have hk1 : Kb 0 w w1:=by rw [hw1];exact kb_alloc _ _ _
  obtain ⟨G,hG⟩ : ∃ G,G = w.heap.size:=⟨_,rfl⟩
  have HI0 : Hid (∃ E : Nat → List Value,Mk 5 w1 G n E 0 w1 ∧ ∀ j,j < 0 → E j = [.int .i64 (C j).k,.int .i64 (C j).m,.float .f64 (C j).g,.string (C j).x,.int .i64 (C j).r]):=by
    refine ⟨fun _=>[],?_,fun j hj=>by omega⟩
    rw [hG,hw1]
    exact mk_zero w _ 5 _ n _ rfl
  have HA : Hid ((0 < n → ∃ a : Addr,pa = some a ∧ n ≤ ca ∧ 0 ≤ a.block ∧ ∀ i,i < n → ValC 0 w (a.add (i * 5)) (C i)) ∧ Kb 0 w w1 ∧ G = w.heap.size):=(⟨ha2,hk1,hG⟩ : _ ∧ _)
  rw [← hG] at hmk2
  clear ha2 hk1 hw1 hn hG
  go_enter Tryz.func102,Tryz.ntmps102
  go_wp2_with fail
  go_loopw [4] (fun s4 wr=>∃ i : Nat,s4 = .int .i64 (i : Int) ∧ i ≤ n ∧ Hid (∃ E : Nat → List Value,Mk 5 w1 G n E i wr ∧ ∀ j,j < i → E j = [.int .i64 (C j).k,.int .i64 (C j).m,.float .f64 (C j).g,.string (C j).x,.int .i64 (C j).r])) (fun s4 _=>n - (intOf s4).toNat)
  case atStart=>exact ⟨0,rfl,Nat.zero_le _,HI0⟩
  case round =>
    clear HI0 hmk2
    obtain ⟨i,rfl,hin,HI⟩:=hrel
    obtain ⟨E,hM,hR⟩:=(show ∃ E : Nat → List Value,Mk 5 w1 G n E i wr ∧ ∀ j,j < i → E j = [.int .i64 (C j).k,.int .i64 (C j).m,.float .f64 (C j).g,.string (C j).x,.int .i64 (C j).r] from HI)
    have hA:=(show (0 < n → ∃ a : Addr,pa = some a ∧ n ≤ ca ∧ 0 ≤ a.block ∧ ∀ i,i < n → ValC 0 w (a.add (i * 5)) (C i)) ∧ Kb 0 w w1 ∧ G = w.heap.size from HA)
    have hBW : Kb 0 w wr:=by
      have hG:=hA.2.2
      have hA2:=hA.2.1
      exact ⟨hM.os.trans hA2.os,hM.output.trans hA2.output,Nat.le_trans hA2.size hM.size,fun b _ hb=>(hM.block b (Nat.lt_of_lt_of_le hb hA2.size) (by omega)).trans (hA2.block b (Nat.zero_le _) hb)⟩
    rcases Nat.lt_or_ge i n with hi | hi
    · have hiI : (i : Int) < (n : Int):=by omega
      obtain ⟨a,rfl,hca,_,hra⟩:=hA.1 (by omega)
      obtain ⟨d0,d1,d2,d3,d4⟩:=(hra i hi).keep (Nat.zero_le _) hBW
      have HT : Hid (Calls Tryz.prog 136 #[valv (C i)] wr fun e w'=>e = .returned (valv (C i)) ∧ Kb 0 wr w'):=to_valu (C i) wr
      have HS : Hid (∀ w6 ,Kb 0 wr w6 → (∀ t,t < 5 → ∃ u,w6.cell? ⟨G,i * 5 + t,none⟩ = some u) ∧ (∀ j,w6.frozen? ⟨G,j,none⟩ = false) ∧ ∃ E : Nat → List Value,Mk 5 w1 G n E (i + 1) (setL w6 G (i * 5) [.int .i64 (C i).k,.int .i64 (C i).m,.float .f64 (C i).g,.string (C i).x,.int .i64 (C i).r]) ∧ ∀ j,j < i + 1 → E j = [.int .i64 (C j).k,.int .i64 (C j).m,.float .f64 (C j).g,.string (C j).x,.int .i64 (C j).r]):=by
        show ∀ w6 ,_
        intro w6  k6
        have h6:=hM.kb k6
        have hgl:=Nat.lt_of_lt_of_le hM.gl hM.size
        have kl : Kb (G + 1) w6 (setL w6 G (i * 5) [.int .i64 (C i).k,.int .i64 (C i).m,.float .f64 (C i).g,.string (C i).x,.int .i64 (C i).r]):=⟨(setL_os _ _ _ _).1,(setL_os _ _ _ _).2,by rw [setL_size];exact Nat.le_refl _,fun k h1 _=>setL_block _ _ (by omega) _ _ _⟩
        refine ⟨h6.rest i (Nat.le_refl _) hi,h6.fz,_,h6.step hi rfl,fun j hj=>?_⟩
        by_cases e : j = i
        · subst e
          exact if_pos rfl
        · rw [if_neg e]
          exact hR j (by omega)
      clear hA HA hM hR HI hra hin hBW
      go_wp2_with fail
      refine (show Calls Tryz.prog 136 #[valv (C i)] wr fun e w'=>e = .returned (valv (C i)) ∧ Kb 0 wr w' from HT).mono ?_
      rintro e w6 ⟨rfl,k6⟩
      obtain ⟨hc,hf,hT⟩:=(show ∀ w6 ,_ from HS) w6 k6
      have HTT : Hid (∃ E : Nat → List Value,Mk 5 w1 G n E (i + 1) (setL w6 G (i * 5) [.int .i64 (C i).k,.int .i64 (C i).m,.float .f64 (C i).g,.string (C i).x,.int .i64 (C i).r]) ∧ ∀ j,j < i + 1 → E j = [.int .i64 (C j).k,.int .i64 (C j).m,.float .f64 (C j).g,.string (C j).x,.int .i64 (C j).r]):=hT
      obtain ⟨u0,h0⟩:=hc 0 (by omega)
      obtain ⟨u1,h1⟩:=hc 1 (by omega)
      obtain ⟨u2,h2⟩:=hc 2 (by omega)
      obtain ⟨u3,h3⟩:=hc 3 (by omega)
      obtain ⟨u4,h4⟩:=hc 4 (by omega)
      rw [Nat.add_zero] at h0
      have e0:=hf (i * 5)
      have e1:=hf (i * 5 + 1)
      have e2:=hf (i * 5 + 2)
      have e3:=hf (i * 5 + 3)
      have e4:=hf (i * 5 + 4)
      clear hc hf hT HS HT
      skip
      clear k6 d0 d1 d2 d3 d4
      have hst : ∀ (a : Addr) (n : Nat) (m : Mode) (w : World),(store a (.float .f64 n) m).run Tryz.prog w = stored Tryz.prog w a (.float .f64 n) m:=fun a n m w=>run_store _ _ _ _ _ rfl
      unfold valv
      go_wp2_with fail
      go_roundw
      case rel=>exact ⟨i + 1,by go_num,by omega,HTT⟩
      case measure=>simp [intOf];omega
    · obtain rfl : i = n:=by omega
      have HE : Hid (Mk 5 w1 G i E i wr ∧ (∀ j,j < i → E j = [.int .i64 (C j).k,.int .i64 (C j).m,.float .f64 (C j).g,.string (C j).x,.int .i64 (C j).r]) ∧ Kb 0 w wr ∧ G = w.heap.size):=(⟨hM,hR,hBW,hA.2.2⟩ : _ ∧ _ ∧ _ ∧ _)
      clear HI hM hR hA HA hBW
      go_wp2_with fail
      go_ret
      obtain ⟨hM,hR,hB,hG⟩:=(show Mk 5 w1 G i E i wr ∧ (∀ j,j < i → E j = [.int .i64 (C j).k,.int .i64 (C j).m,.float .f64 (C j).g,.string (C j).x,.int .i64 (C j).r]) ∧ Kb 0 w wr ∧ G = w.heap.size from HE)
      refine ⟨_,rfl,⟨_,_,rfl,fun _=>⟨⟨G,0,none⟩,rfl,Nat.le_refl _,(by show w.heap.size ≤ G;omega),fun j hj=>?_⟩⟩,hB⟩
      rw [addr0]
      have hce:=hM.ce j hj
      rw [hR j hj] at hce
      exact CelV.of hce
end Go.Proofs.YtnmeemjoodoalaaGreatDoor.Fo
