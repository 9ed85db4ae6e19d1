import Derived.Test.YtfpidccjcemcjaaUfb
namespace Go.Proofs.Ytfpidccjcemcjaa
open Go.ChangeShapes Go.WideShapes Go.ChangeAt Go.RowKit
set_option linter.unusedVariables false
set_option maxRecDepth 100000

def LnT (n : Nat) (F : Nat → Pv) (T c : Int) : Prop := (¬ tok n F T ∧ c = 0) ∨ (tok n F T ∧ Ln n F c)
theorem LnT.uniq {n : Nat} {F : Nat → Pv} {T c d : Int} (h : LnT n F T c) (g : LnT n F T d) : c = d := by
  rcases h with ⟨h1, h2⟩ | ⟨h1, h2⟩ <;> rcases g with ⟨g1, g2⟩ | ⟨g1, g2⟩
  · omega
  · exact absurd g1 h1
  · exact absurd h1 g1
  · exact h2.uniq g2
set_option maxHeartbeats 8000000 in
theorem sp_length {v : Value} {g n : Nat} {F : Nat → Pv} (T : Int) (w : World) (ha : OwnP w v g n F) (tb : Tb n F) : Calls Try.prog 29 #[.agg #[v, .int .i64 T]] w fun e w' => ∃ c : Int, e = .returned (.int .i64 c) ∧ LnT n F T c ∧ Kq w w' := by
  obtain ⟨pa, ca, rfl, ha2⟩ := ha.sl
  obtain ⟨w1, hw1⟩ : ∃ w1, w1 = w.alloc (.cells #[.slice pa n ca, .int .i64 T] 40) := ⟨_, rfl⟩
  have k1 : Kq w w1 := by rw [hw1]; exact kq_alloc _ _ _
  have a1 : w1.heap[w.heap.size]? = some (.cells #[.slice pa n ca, .int .i64 T] 40 (0, 0)) := by rw [hw1]; exact alloc_new _ _
  have HO : Hid (Calls Try.prog 15 #[.agg #[.slice pa n ca, .int .i64 T]] w1 fun e w' => e = .returned (.bool (dc (tok n F T))) ∧ Kq w1 w') := sp_tableok T w1 (ha.kq k1) tb
  have HL : Hid (tok n F T → ∀ W, Kq w1 W → Calls Try.prog 56 #[.agg #[.slice pa n ca, .int .i64 T]] W fun e w' => ∃ c : Int, e = .returned (.int .i64 c) ∧ Ln n F c ∧ Kq W w') := (fun ht W q => sp_len0 T W ((ha.kq k1).kq q) tb (fun i hi => (ht.2.2.2 i hi).1) : tok n F T → ∀ W, _)
  have HC : Hid (∀ W', Kq w1 W' → W'.cell? ⟨w.heap.size, 0, none⟩ = some (.slice pa n ca) ∧ W'.cell? ⟨w.heap.size, 1, none⟩ = some (.int .i64 T)) := (fun W' q => ⟨q.cell (cell_of a1 rfl), q.cell (cell_of a1 rfl)⟩ : ∀ W', Kq w1 W' → _)
  have HK : Hid (Kq w w1) := k1
  clear ha ha2 tb k1 a1
  go_enter Try.func29, Try.ntmps29
  go_wp2_with fail
  rw [← hw1]
  clear hw1
  refine (show Calls Try.prog 15 #[.agg #[.slice pa n ca, .int .i64 T]] w1 _ from HO).mono ?_
  rintro e w2 ⟨rfl, k2⟩
  have HK2 : Hid (Kq w1 w2) := k2
  clear k2 HO
  by_cases ht : tok n F T
  case neg =>
    have HE : Hid (LnT n F T 0 ∧ Kq w w2) := (⟨.inl ⟨ht, rfl⟩, Kq.trans HK HK2⟩ : _ ∧ _)
    rw [dc_f ht]
    clear HL HC HK2 ht
    go_wp2_with fail
    go_ret
    exact ⟨0, rfl, (show LnT n F T 0 ∧ Kq w w2 from HE).1, (show LnT n F T 0 ∧ Kq w w2 from HE).2⟩
  rw [dc_t ht]
  obtain ⟨a0, a1⟩ := (show ∀ W', Kq w1 W' → _ from HC) w2 HK2
  have HL2 := (show tok n F T → ∀ W, Kq w1 W → _ from HL) ht
  have HT : Hid (∀ c, Ln n F c → LnT n F T c) := (fun c h => .inr ⟨ht, h⟩ : ∀ c, Ln n F c → LnT n F T c)
  clear HL HC ht
  go_wp2_with fail
  refine (HL2 w2 HK2).mono ?_
  rintro e w3 ⟨c, rfl, hln, k3⟩
  have HE : Hid (LnT n F T c ∧ Kq w w3) := (⟨(show ∀ c, Ln n F c → LnT n F T c from HT) c hln, Kq.trans HK (Kq.trans HK2 k3)⟩ : _ ∧ _)
  clear HL2 HT hln k3 a0 a1 HK2
  go_wp2_with fail
  go_ret
  exact ⟨c, rfl, (show LnT n F T c ∧ Kq w w3 from HE).1, (show LnT n F T c ∧ Kq w w3 from HE).2⟩
theorem look_has (n : Nat) (F : Nat → Pv) (z : Int) : (look (ki z) (kts (lsp F n))).isSome = dc (hasI n F z) := by
  by_cases h : hasI n F z
  · rw [dc_t h]
    cases q : look (ki z) (kts (lsp F n)) with
    | none =>
      obtain ⟨j, hj, hm⟩ := h
      exact absurd hm ((look_lsp _ F n).1 q j hj)
    | some t => rfl
  · rw [dc_f h, (look_lsp _ F n).2 (fun j hj hm => h ⟨j, hj, hm⟩)]
    rfl
theorem run_fieldV (c k m : Int) (g : Nat) (x : ByteArray) (r : Int) (w : World) : (Instr.field 28 (.agg #[.int .i64 c, .int .i64 k, .int .i64 m, .float .f64 g, .string x, .int .i64 r]) 1).run Try.prog w = .ok (.agg #[.int .i64 k, .int .i64 m, .float .f64 g, .string x, .int .i64 r]) w := by kernel_rfl
set_option maxHeartbeats 8000000 in
theorem im_len0 {w : World} {B M n : Nat} {F : Nat → Pv} {v : Value} {T : Int} (W : World) (hL : Lg w B M (lsp F n) v T W) (hn : n ≤ 500) (hks : ∀ i, i < n → kok (F i).a) : Calls Try.prog 57 #[.pointer (some ⟨B, 0, none⟩)] W fun e w' => ∃ c : Int, e = .returned (.int .i64 c) ∧ Ln n F c ∧ Kq W w' := by
  have hnI : (n : Int) ≤ 500 := by omega
  have HH : Hid (∀ c W', Kq W W' → Calls Try.prog 74 #[.pointer (some ⟨B, 0, none⟩), vv (ki c)] W' fun e w' => e = .returned (.bool (dc (hasI n F c))) ∧ Kq W' w') := (fun c W' q => by
    have h := im_has (ki c) (kok_ki c) W' (cell_of (hL.on q).ob rfl) (hL.on q).mp
    rw [look_has] at h
    exact h : ∀ c W', _)
  have HST : Hid (∀ c, Lr n F c → hasI n F (c + 1) → Lr n F (c + 1) ∧ cg F (c + 1) n < cg F c n) := (fun c h1 h2 => h1.step hks h2 : ∀ c, _)
  clear hL hn hks
  go_enter Try.func57, Try.ntmps57
  go_wp2_with fail
  go_loopw [3] (fun s3 wr => ∃ c : Int, s3 = .int .i64 c ∧ 0 ≤ c ∧ c ≤ (n : Int) ∧ Hid (Kq W wr ∧ Lr n F c)) (fun s3 _ => cg F (intOf s3) n)
  case atStart => exact ⟨0, rfl, by omega, by omega, (⟨Kq.refl _, Lr.zero n F⟩ : _ ∧ _)⟩
  case round =>
    obtain ⟨c, rfl, hc0, hcn, HX⟩ := hrel
    have HI := fun w => im_int (c + 1) w
    unfold va at HI
    dsimp only at HI
    have HFV := fun w => run_fieldV 0 2 (c + 1) 0 ⟨#[]⟩ 0 w
    have HH2 := (show ∀ c W', Kq W W' → _ from HH) (c + 1)
    unfold vv ki at HH2
    dsimp only at HH2
    have hX := (show Kq W wr ∧ Lr n F c from HX)
    have HKR : Hid (Kq W wr ∧ Lr n F c) := hX
    clear hX HX
    go_wp2_with fail
    refine (HI _).mono ?_
    rintro e w3 ⟨rfl, g3⟩
    have K3 : Hid (Kq W w3) := Kq.trans (show Kq W wr ∧ _ from HKR).1 (.of_grown g3)
    clear g3
    go_wp2_with fail
    refine (HH2 w3 K3).mono ?_
    rintro e w4 ⟨rfl, g4⟩
    have K4 : Hid (Kq W w4) := Kq.trans K3 g4
    clear g4 K3
    have hX := (show Kq W wr ∧ Lr n F c from HKR)
    by_cases hh : hasI n F (c + 1)
    case neg =>
      rw [dc_f hh]
      have HE : Hid (Ln n F c ∧ Kq W w4) := (⟨⟨hc0, hX.2.1, hh⟩, K4⟩ : _ ∧ _)
      clear hX HKR HH HH2 HI K4 HST hh
      go_wp2_with fail
      go_ret
      exact ⟨c, rfl, (show Ln n F c ∧ Kq W w4 from HE).1, (show Ln n F c ∧ Kq W w4 from HE).2⟩
    rw [dc_t hh]
    obtain ⟨hr2, hlt⟩ := (show ∀ c, Lr n F c → hasI n F (c + 1) → _ from HST) c hX.2 hh
    have hcn2 : c + 1 ≤ (n : Int) := by have := hr2.2; omega
    have HN : Hid (Kq W w4 ∧ Lr n F (c + 1)) := (⟨K4, hr2⟩ : _ ∧ _)
    have HLT : Hid (cg F (c + 1) n < cg F c n) := hlt
    clear hX HKR HH HH2 HI K4 HST hh hr2 hlt
    go_wp2_with fail
    go_roundw
    case rel => first | exact ⟨c + 1, by go_num, by omega, hcn2, HN⟩ | ((repeat apply Exists.intro); exact ⟨⟨c + 1, by go_num, by omega, hcn2, HN⟩, rfl⟩)
    case measure => exact HLT
set_option maxHeartbeats 8000000 in
theorem im_length {v : Value} {g n : Nat} {F : Nat → Pv} (T : Int) (w : World) (ha : OwnP w v g n F) (tb : Tb n F) : Calls Try.prog 30 #[.agg #[v, .int .i64 T]] w fun e w' => ∃ c : Int, e = .returned (.int .i64 c) ∧ LnT n F T c ∧ Kq w w' := by
  have HL : Hid (∀ c t, Calls Try.prog 43 #[.agg #[v, .int .i64 T]] (w.alloc (.cells c t)) fun e w' => LO (w.alloc (.cells c t)) n F T e w') := (fun c t => im_ledger T _ (ha.kq (kq_alloc _ _ _)) tb : ∀ c t, _)
  obtain ⟨pa, ca, rfl, ha2⟩ := ha.sl
  clear ha2 ha tb
  go_enter Try.func30, Try.ntmps30
  go_wp2_with fail
  refine ((show ∀ c t, Calls Try.prog 43 #[.agg #[.slice pa n ca, .int .i64 T]] (w.alloc (.cells c t)) _ from HL) _ _).mono ?_
  intro e w1 h1
  rcases h1 with ⟨ht, rfl, k1⟩ | ⟨ht, B, M, v', rfl, l1⟩
  · have HT : Hid (¬ tok n F T ∧ Kq w w1) := (⟨ht, (kq_alloc _ _ _).trans k1⟩ : _ ∧ _)
    clear HL ht k1
    go_wp2_with fail
    go_ret
    exact ⟨0, rfl, .inl ⟨(show ¬ tok n F T ∧ _ from HT).1, rfl⟩, (show ¬ tok n F T ∧ _ from HT).2⟩
  · have HN : Hid (Calls Try.prog 57 #[.pointer (some ⟨B, 0, none⟩)] w1 fun e w' => ∃ c : Int, e = .returned (.int .i64 c) ∧ Ln n F c ∧ Kq w1 w') := im_len0 w1 l1 ht.1 (fun i hi => (ht.2.2.2 i hi).1)
    have HT : Hid (tok n F T ∧ Kq w w1) := (⟨ht, (kq_alloc _ _ _).trans l1.kq⟩ : _ ∧ _)
    clear HL ht l1
    go_wp2_with fail
    refine (show Calls Try.prog 57 #[.pointer (some ⟨B, 0, none⟩)] w1 _ from HN).mono ?_
    rintro e w2 ⟨c, rfl, hln, k2⟩
    have HE : Hid (LnT n F T c ∧ Kq w w2) := (⟨.inr ⟨(show tok n F T ∧ _ from HT).1, hln⟩, Kq.trans (show tok n F T ∧ Kq w w1 from HT).2 k2⟩ : _ ∧ _)
    clear HN HT hln k2
    go_wp2_with fail
    go_ret
    exact ⟨c, rfl, (show LnT n F T c ∧ Kq w w2 from HE).1, (show LnT n F T c ∧ Kq w w2 from HE).2⟩
set_option maxHeartbeats 8000000 in
theorem law_length {v : Value} {n : Nat} {F : Nat → Pv} (T : Int) (w : World) (ta : Ta w v n F) : Calls Try.prog 8 #[.agg #[v, .int .i64 T]] w fun e w' => e = .returned (.bool true) ∧ Kq w w' := by
  obtain ⟨pa, ca, rfl, _⟩ := ta.row
  obtain ⟨w1, hw1⟩ : ∃ w1, w1 = w.alloc (.cells #[.slice pa n ca, .int .i64 T] 35) := ⟨_, rfl⟩
  have k1 : Kq w w1 := by rw [hw1]; exact kq_alloc _ _ _
  have a1 : w1.heap[w.heap.size]? = some (.cells #[.slice pa n ca, .int .i64 T] 35 (0, 0)) := by rw [hw1]; exact alloc_new _ _
  have HS : Hid (∀ W, Kq w1 W → Calls Try.prog 14 #[.agg #[.slice pa n ca, .int .i64 T], .int .i64 1048576] W fun e w' => ∃ r : Int, e = .returned (.int .i64 r) ∧ (0 ≤ r → Tb n F) ∧ -1 ≤ r ∧ r ≤ 1048576 ∧ Kq W w') := (fun W q => (sz_table T W ((ta.row.kq k1).kq q) ta.len (fun i hi => ⟨(ta.a i hi).x, (ta.b i hi).x⟩)).mono (fun e w' ⟨r, h1, h2, h3, h4, h5⟩ => ⟨r, h1, fun h => ⟨by have := (h2 h).1; omega, ta.a, ta.b, fun i hi => ((h2 h).2 i hi).1, fun i hi => ((h2 h).2 i hi).2, ta.t⟩, h3, h4, h5⟩) : ∀ W, Kq w1 W → _)
  have HT : Hid (Tb n F → ∀ W, Kq w1 W → Calls Try.prog 16 #[.agg #[.slice pa n ca, .int .i64 T]] W fun e w' => ∃ v g, e = .returned (.agg #[v, .int .i64 T]) ∧ OwnP w' v g n F ∧ W.heap.size ≤ g ∧ g < w'.heap.size ∧ Kq W w') := (fun tb W q => to_table T W ((ta.row.kq k1).kq q) tb.len : Tb n F → ∀ W, Kq w1 W → _)
  have HA : Hid (∀ W, Kq w1 W → W.cell? ⟨w.heap.size, 0, none⟩ = some (.slice pa n ca) ∧ W.cell? ⟨w.heap.size, 1, none⟩ = some (.int .i64 T)) := (fun W q => ⟨q.cell (cell_of a1 rfl), q.cell (cell_of a1 rfl)⟩ : ∀ W, Kq w1 W → _)
  have HK : Hid (Kq w w1) := k1
  clear ta k1 a1
  go_enter Try.func8, Try.ntmps8
  go_wp2_with fail
  rw [← hw1]
  clear hw1
  refine ((show ∀ W, Kq w1 W → _ from HS) w1 (Kq.refl _)).mono ?_
  rintro e w2 ⟨r, rfl, htb, hr0, hr1, g2⟩
  have HK2 : Hid (Kq w1 w2) := g2
  have HTB : Hid (0 ≤ r → Tb n F) := htb
  clear htb g2 HS
  rcases Int.lt_or_le r 0 with hr | hr
  · go_wp2_with fail
    go_ret
    exact ⟨rfl, Kq.trans HK HK2⟩
  have hr' : ¬ r < 0 := by omega
  have tb := (show 0 ≤ r → Tb n F from HTB) hr
  have TBH : Hid (Tb n F) := tb
  have HTT := (show Tb n F → ∀ W, Kq w1 W → _ from HT) tb
  have HTH : Hid (∀ W, Kq w1 W → Calls Try.prog 16 #[.agg #[.slice pa n ca, .int .i64 T]] W fun e w' => ∃ v g, e = .returned (.agg #[v, .int .i64 T]) ∧ OwnP w' v g n F ∧ W.heap.size ≤ g ∧ g < w'.heap.size ∧ Kq W w') := HTT
  clear HTB HT HTT tb
  obtain ⟨a0, a1⟩ := (show ∀ W, Kq w1 W → _ from HA) w2 HK2
  go_wp2_with fail
  refine ((show ∀ W, Kq w1 W → _ from HTH) w2 HK2).mono ?_
  rintro e w3 ⟨v1, g1, rfl, ho1, _, _, k3⟩
  have HK3 : Hid (Kq w1 w3) := Kq.trans HK2 k3
  have HO : Hid (Calls Try.prog 29 #[.agg #[v1, .int .i64 T]] w3 fun e w' => ∃ c : Int, e = .returned (.int .i64 c) ∧ LnT n F T c ∧ Kq w3 w') := sp_length T w3 ho1 TBH
  obtain ⟨p1, c1, rfl, _⟩ := ho1.sl
  clear ho1 k3 HK2 a0 a1
  go_wp2_with fail
  refine (show Calls Try.prog 29 #[.agg #[.slice p1 n c1, .int .i64 T]] w3 _ from HO).mono ?_
  rintro e w4 ⟨bb, rfl, hb1, k4⟩
  have HB1 : Hid (LnT n F T bb) := hb1
  clear hb1
  have HK4 : Hid (Kq w1 w4) := Kq.trans HK3 k4
  clear k4 HK3 HO
  obtain ⟨a0, a1⟩ := (show ∀ W, Kq w1 W → _ from HA) w4 HK4
  go_wp2_with fail
  refine ((show ∀ W, Kq w1 W → _ from HTH) w4 HK4).mono ?_
  rintro e w5 ⟨v2, g2, rfl, ho2, _, _, k5⟩
  have HK5 : Hid (Kq w1 w5) := Kq.trans HK4 k5
  obtain ⟨pb, cb, rfl, _⟩ := ho2.sl
  obtain ⟨w6, hw6⟩ : ∃ w6, w6 = w5.alloc (.cells #[.slice pb n cb, .int .i64 T] 40) := ⟨_, rfl⟩
  have k6 : Kq w5 w6 := by rw [hw6]; exact kq_alloc _ _ _
  have x6 : w6.heap[w5.heap.size]? = some (.cells #[.slice pb n cb, .int .i64 T] 40 (0, 0)) := by rw [hw6]; exact alloc_new _ _
  have HO6 : Hid (OwnP w6 (.slice pb n cb) g2 n F) := ho2.kq k6
  have HI : Hid (Calls Try.prog 30 #[.agg #[.slice pb n cb, .int .i64 T]] w6 fun e w' => ∃ c : Int, e = .returned (.int .i64 c) ∧ LnT n F T c ∧ Kq w6 w') := im_length T w6 (ho2.kq k6) TBH
  have HK6 : Hid (Kq w1 w6) := Kq.trans HK5 k6
  have HX6 : Hid (∀ W, Kq w6 W → W.cell? ⟨w5.heap.size, 0, none⟩ = some (.slice pb n cb) ∧ W.cell? ⟨w5.heap.size, 1, none⟩ = some (.int .i64 T)) := (fun W q => ⟨q.cell (cell_of x6 rfl), q.cell (cell_of x6 rfl)⟩ : ∀ W, Kq w6 W → _)
  clear ho2 k5 HK4 HK5 a0 a1 k6 x6
  go_wp2_with fail
  rw [← hw6]
  clear hw6
  generalize w5.heap.size = X at HX6 ⊢
  refine (show Calls Try.prog 30 #[.agg #[.slice pb n cb, .int .i64 T]] w6 _ from HI).mono ?_
  rintro e w7 ⟨bb2, rfl, hb2, k7⟩
  obtain rfl : bb2 = bb := LnT.uniq hb2 HB1
  clear hb2 HB1
  have HK7 : Hid (Kq w1 w7) := Kq.trans HK6 k7
  have HK67 : Hid (Kq w6 w7) := k7
  clear HI k7 HK6
  have hbn : (bb2 != bb2) = false := by simp
  have HSS : Hid (∀ W', Kq w7 W' → W'.cell? ⟨w.heap.size, 0, none⟩ = some (.slice pa n ca) ∧ W'.cell? ⟨w.heap.size, 1, none⟩ = some (.int .i64 T) ∧ W'.cell? ⟨X, 0, none⟩ = some (.slice pb n cb) ∧ W'.cell? ⟨X, 1, none⟩ = some (.int .i64 T)) := (fun W' q => ⟨((show ∀ W, Kq w1 W → _ from HA) W' (Kq.trans HK7 q)).1, ((show ∀ W, Kq w1 W → _ from HA) W' (Kq.trans HK7 q)).2, ((show ∀ W, Kq w6 W → _ from HX6) W' (Kq.trans HK67 q)).1, ((show ∀ W, Kq w6 W → _ from HX6) W' (Kq.trans HK67 q)).2⟩ : ∀ W', Kq w7 W' → _)
  clear HA HX6
  go_wp2_with fail
  refine AnyL.region (S := fun W' : World => W'.cell? ⟨w.heap.size, 0, none⟩ = some (.slice pa n ca) ∧ W'.cell? ⟨w.heap.size, 1, none⟩ = some (.int .i64 T) ∧ W'.cell? ⟨X, 0, none⟩ = some (.slice pb n cb) ∧ W'.cell? ⟨X, 1, none⟩ = some (.int .i64 T)) (z := 99) (by kernel_rfl) ?_
  have hS0 : (fun W' : World => W'.cell? ⟨w.heap.size, 0, none⟩ = some (.slice pa n ca) ∧ W'.cell? ⟨w.heap.size, 1, none⟩ = some (.int .i64 T) ∧ W'.cell? ⟨X, 0, none⟩ = some (.slice pb n cb) ∧ W'.cell? ⟨X, 1, none⟩ = some (.int .i64 T)) w7.drew := (show ∀ W', Kq w7 W' → W'.cell? ⟨w.heap.size, 0, none⟩ = some (.slice pa n ca) ∧ W'.cell? ⟨w.heap.size, 1, none⟩ = some (.int .i64 T) ∧ W'.cell? ⟨X, 0, none⟩ = some (.slice pb n cb) ∧ W'.cell? ⟨X, 1, none⟩ = some (.int .i64 T) from HSS) w7.drew (Kq.drew (Kq.refl _))
  refine AnyL.takeAt 0 (.agg #[.slice pb n cb, .int .i64 T]) rfl (by kernel_rfl) (by kernel_rfl) (by kernel_rfl) (by kernel_rfl) (fun _ _ _ h => h) rfl hS0 (by intro W hW; obtain ⟨q0, q1, q2, q3⟩ := hW; go_simp) ?_
  try simp only [Act.put, List.setIfInBounds_toArray, List.set_cons_zero, List.set_cons_succ]
  refine AnyL.takeAt 1 (.agg #[.slice pa n ca, .int .i64 T]) rfl (by kernel_rfl) (by kernel_rfl) (by kernel_rfl) (by kernel_rfl) (fun _ _ _ h => h) rfl hS0 (by intro W hW; obtain ⟨q0, q1, q2, q3⟩ := hW; go_simp) ?_
  try simp only [Act.put, List.setIfInBounds_toArray, List.set_cons_zero, List.set_cons_succ]
  refine AnyL.oneAt 2 rfl (by kernel_rfl) rfl ?_
  intro K hK
  go_simp
  refine ((show ∀ W, Kq w1 W → _ from HTH) w7.drew (Kq.drew HK7)).mono ?_
  rintro e w8 ⟨v3, g3, rfl, ho3, _, _, k8⟩
  have K8 : Hid (Kq w7 w8) := Kq.trans (Kq.drew (Kq.refl _)) k8
  have hS8 := (show ∀ W', Kq w7 W' → W'.cell? ⟨w.heap.size, 0, none⟩ = some (.slice pa n ca) ∧ W'.cell? ⟨w.heap.size, 1, none⟩ = some (.int .i64 T) ∧ W'.cell? ⟨X, 0, none⟩ = some (.slice pb n cb) ∧ W'.cell? ⟨X, 1, none⟩ = some (.int .i64 T) from HSS) w8 K8
  have HE : Hid (Calls Try.prog 18 #[.agg #[.slice pb n cb, .int .i64 T], .agg #[v3, .int .i64 T]] w8 fun e w' => e = .returned (.bool true) ∧ Kq w8 w') := eq_table T w8 (OwnP.kq HO6 (Kq.trans HK67 K8)) ho3 (show Tb n F from TBH).len (fun i hi => ⟨((show Tb n F from TBH).a i hi).g, ((show Tb n F from TBH).b i hi).g⟩)
  obtain ⟨p3, c3, rfl, _⟩ := ho3.sl
  clear k8 ho3
  refine hK.out _ _ (fun _ => hS8) ?_
  clear hK K
  try simp only [Act.put, List.setIfInBounds_toArray, List.set_cons_zero, List.set_cons_succ]
  refine AnyL.oneAt 3 rfl (by kernel_rfl) rfl ?_
  intro K hK
  go_simp
  refine (show Calls Try.prog 18 #[.agg #[.slice pb n cb, .int .i64 T], .agg #[.slice p3 n c3, .int .i64 T]] w8 _ from HE).mono ?_
  rintro e w9 ⟨rfl, k9⟩
  have hS9 := (show ∀ W', Kq w7 W' → W'.cell? ⟨w.heap.size, 0, none⟩ = some (.slice pa n ca) ∧ W'.cell? ⟨w.heap.size, 1, none⟩ = some (.int .i64 T) ∧ W'.cell? ⟨X, 0, none⟩ = some (.slice pb n cb) ∧ W'.cell? ⟨X, 1, none⟩ = some (.int .i64 T) from HSS) w9 (Kq.trans K8 k9)
  have KE : Hid (Kq w w9) := Kq.trans HK (Kq.trans HK7 (Kq.trans K8 k9))
  clear k9
  refine hK.out _ _ (fun _ => hS9) ?_
  clear hK K
  try simp only [Act.put, List.setIfInBounds_toArray, List.set_cons_zero, List.set_cons_succ]
  refine AnyL.takeAt 4 (.bool false) rfl (by kernel_rfl) (by kernel_rfl) (by kernel_rfl) (by kernel_rfl) (fun _ _ _ h => h) rfl hS9 (by intro W hW; go_simp) ?_
  try simp only [Act.put, List.setIfInBounds_toArray, List.set_cons_zero, List.set_cons_succ]
  refine AnyL.done (by kernel_rfl) ?_
  clear hS0 hS8 hS9 HSS HE HTH TBH HO6 HK7 HK67 K8
  go_wp2_with fail
  go_ret
  exact ⟨rfl, KE⟩
end Go.Proofs.Ytfpidccjcemcjaa
