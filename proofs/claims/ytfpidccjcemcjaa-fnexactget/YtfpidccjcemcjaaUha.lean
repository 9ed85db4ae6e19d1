import Derived.Test.YtfpidccjcemcjaaUgb
import Derived.Test.YtfpidccjcemcjaaUfa
namespace Go.Proofs.Ytfpidccjcemcjaa
open Go.ChangeShapes Go.WideShapes Go.ChangeAt Go.RowKit
set_option linter.unusedVariables false
set_option maxRecDepth 100000

theorem look_some (m : Vv) : ∀ (L : List (Vv × Int)) (t : Int), look m L = some t → ∃ p ∈ L, mk m = mk p.1 ∧ t = p.2
  | [], t, h => by unfold look at h; cases h
  | p :: L, t, h => by
    unfold look at h
    by_cases q : mk m = mk p.1
    · rw [dc_t q] at h
      simp only [if_true, Option.some.injEq] at h
      exact ⟨p, List.mem_cons_self .., q, h.symm⟩
    · rw [dc_f q] at h
      simp only [Bool.false_eq_true, if_false] at h
      obtain ⟨r, h1, h2⟩ := look_some m L t h
      exact ⟨r, List.mem_cons_of_mem _ h1, h2⟩
theorem look_at {m : Vv} {F : Nat → Pv} {n : Nat} {t : Int} (h : look m (kts (lsp F n)) = some t) : ∃ j, j < n ∧ mk (F j).a = mk m ∧ t = (F j).t := by
  obtain ⟨p, h1, h2, h3⟩ := look_some m _ t h
  unfold kts lsp at h1
  simp only [List.map_map, List.mem_map, List.mem_range] at h1
  obtain ⟨j, hj, rfl⟩ := h1
  exact ⟨j, hj, h2.symm, h3⟩
theorem tok_lt {n : Nat} {F : Nat → Pv} {T : Int} (h : tok n F T) : ∀ a b, a < b → b < n → (F a).t < (F b).t := by
  intro a b hab hb
  cases b with
  | zero => omega
  | succ b =>
    have h1 := tok_asc h a b (by omega) (by omega)
    have h2 : lst F (b + 1) < (F (b + 1)).t := (h.2.2.2 (b + 1) hb).2.2.2.1
    have h3 : lst F (b + 1) = (F b).t := rfl
    omega
theorem tok_range {n : Nat} {F : Nat → Pv} {T : Int} (h : tok n F T) (j : Nat) (hj : j < n) : 1 ≤ (F j).t ∧ (F j).t ≤ 1000000000000 := by
  have h1 := tok_asc h 0 j (by omega) hj
  have h2 : lst F 0 < (F 0).t := (h.2.2.2 0 (by omega)).2.2.2.1
  have h3 : lst F 0 = 0 := rfl
  have h4 := (h.2.2.2 j hj).2.2.2.2.1
  have := h.2.2.1
  omega
theorem bh_at {n : Nat} {F : Nat → Pv} {T : Int} (h : tok n F T) {j r : Nat} (hj : j < n) (hb : Bh n F ((F j).t - 1) r) : r = j := by
  rcases Nat.lt_trichotomy r j with e | e | e
  · have h1 := hb.2.2 r (Nat.le_refl _) (by omega)
    have h2 := tok_lt h r j e hj
    omega
  · exact e
  · have h1 := hb.2.1 j e
    omega
theorem tok_mk {n : Nat} {F : Nat → Pv} {T : Int} (h : tok n F T) {i j : Nat} (hi : i < n) (hj : j < n) (e : mk (F i).a = mk (F j).a) : i = j := by
  rcases Nat.lt_trichotomy i j with q | q | q
  · exact absurd e ((h.2.2.2 j hj).2.2.2.2.2 i q)
  · exact q
  · exact absurd e.symm ((h.2.2.2 i hi).2.2.2.2.2 j q)
/-- what find answers -/
def Fd (n : Nat) (F : Nat → Pv) (u : Vv) (r : Nat) (ok : Bool) : Prop := (ok = false ∧ ∀ j, j < n → ¬ mk (F j).a = mk u) ∨ (ok = true ∧ r < n ∧ mk (F r).a = mk u)
set_option maxHeartbeats 8000000 in
theorem im_find {w : World} {B M n : Nat} {F : Nat → Pv} {v : Value} {T : Int} (u : Vv) (hu : kok u) (W : World) (hL : Lg w B M (lsp F n) v T W) (ht : tok n F T) : Calls Try.prog 69 #[.pointer (some ⟨B, 0, none⟩), vv u] W fun e w' => ∃ (r : Nat) (ok : Bool), e = .returned (.tuple #[.int .i64 (r : Int), .bool ok]) ∧ Fd n F u r ok ∧ Kq W w' := by
  have HK := fun w => im_mark u hu w
  obtain ⟨mw, hmw⟩ : ∃ mw, mw = mkw u := ⟨_, rfl⟩
  rw [← hmw] at HK
  have HL : ∀ W, Mp W M (kts (lsp F n)) → (Instr.lookup 72 (.map (some M)) mw true).run Try.prog W = .ok (lkv (look u (kts (lsp F n)))) W := fun W hW => by rw [hmw]; exact run_lookMk hW u
  obtain ⟨tn, ok, hlk, htn, HFD⟩ : ∃ (tn : Int) (ok : Bool), lkv (look u (kts (lsp F n))) = .tuple #[.int .i64 tn, .bool ok] ∧ (0 ≤ tn ∧ tn ≤ 1000000000000) ∧ ∀ r, Bh n F (tn - 1) r → Fd n F u r ok := by
    cases q : look u (kts (lsp F n)) with
    | none => exact ⟨0, false, rfl, by omega, fun r _ => .inl ⟨rfl, (look_lsp _ F n).1 q⟩⟩
    | some t =>
      obtain ⟨j, hj, h1, rfl⟩ := look_at q
      have hr := tok_range ht j hj
      refine ⟨(F j).t, true, rfl, by omega, fun r hb => ?_⟩
      obtain rfl := bh_at ht hj hb
      exact .inr ⟨rfl, hj, h1⟩
  rw [hlk] at HL
  have HFH : Hid (∀ r, Bh n F (tn - 1) r → Fd n F u r ok) := HFD
  have HBH : Hid (∀ W', Kq W W' → Calls Try.prog 73 #[.pointer (some ⟨B, 0, none⟩), .int .i64 (tn - 1)] W' fun e w' => ∃ r : Nat, e = .returned (.int .i64 (r : Int)) ∧ Bh n F (tn - 1) r ∧ Kq W' w') := (fun W' q => im_behind (tn - 1) W' (hL.on q) ht : ∀ W', Kq W W' → _)
  clear hlk HFD hu hmw ht
  generalize Fd n F u = Fu at HFH ⊢
  obtain ⟨k, m, g, x, r⟩ := u
  unfold vv at HK ⊢
  dsimp only at HK ⊢
  obtain ⟨w1, hw1⟩ : ∃ w1, w1 = W.alloc (.cells #[.int .i64 k, .int .i64 m, .float .f64 g, .string x, .int .i64 r] 26) := ⟨_, rfl⟩
  have k1 : Kq W w1 := by rw [hw1]; exact kq_alloc _ _ _
  have S1 : w1.cell? ⟨B, 2, none⟩ = some (.map (some M)) ∧ Mp w1 M (kts (lsp F n)) ∧ Vc w1 W.heap.size ⟨k, m, g, x, r⟩ := ⟨k1.cell (cell_of hL.ob rfl), hL.mp.kq k1, by rw [hw1]; exact Vc.new _ _ _ _ _ _ _⟩
  have HS : Hid (∀ W', Kq w1 W' → W'.cell? ⟨B, 2, none⟩ = some (.map (some M)) ∧ Mp W' M (kts (lsp F n)) ∧ Vc W' W.heap.size ⟨k, m, g, x, r⟩) := (fun W' q => ⟨q.cell S1.1, S1.2.1.kq q, S1.2.2.kq q⟩ : ∀ W', Kq w1 W' → _)
  have HK1 : Hid (Kq W w1) := k1
  clear hL S1 k1
  have hst : ∀ (a : Addr) (n : Nat) (m : Mode) (w : World), (store a (.float .f64 n) m).run Try.prog w = stored Try.prog w a (.float .f64 n) m := fun a n m w => run_store _ _ _ _ _ rfl
  go_enter Try.func69, Try.ntmps69
  go_wp2_with fail
  rw [← hw1]
  clear hw1
  refine AnyL.region (S := fun W' : World => W'.cell? ⟨B, 2, none⟩ = some (.map (some M)) ∧ Mp W' M (kts (lsp F n)) ∧ Vc W' W.heap.size ⟨k, m, g, x, r⟩) (z := 99) (by kernel_rfl) ?_
  have hS0 : (fun W' : World => W'.cell? ⟨B, 2, none⟩ = some (.map (some M)) ∧ Mp W' M (kts (lsp F n)) ∧ Vc W' W.heap.size ⟨k, m, g, x, r⟩) w1.drew := (show ∀ W', Kq w1 W' → W'.cell? ⟨B, 2, none⟩ = some (.map (some M)) ∧ Mp W' M (kts (lsp F n)) ∧ Vc W' W.heap.size ⟨k, m, g, x, r⟩ from HS) w1.drew (Kq.drew (Kq.refl _))
  refine AnyL.takeAt 0 (.pointer (some ⟨B, 0, none⟩)) rfl (by kernel_rfl) (by kernel_rfl) (by kernel_rfl) (by kernel_rfl) (fun _ _ _ h => h) rfl hS0 (by intro W hW; obtain ⟨q0, q1, ⟨q2, q3, q4, q5, q6⟩⟩ := hW; go_simp) ?_
  try simp only [Act.put, List.setIfInBounds_toArray, List.set_cons_zero, List.set_cons_succ]
  refine AnyL.takeAt 1 (.pointer (some ⟨B, 0, none⟩)) rfl (by kernel_rfl) (by kernel_rfl) (by kernel_rfl) (by kernel_rfl) (fun _ _ _ h => h) rfl hS0 (by intro W hW; obtain ⟨q0, q1, ⟨q2, q3, q4, q5, q6⟩⟩ := hW; go_simp) ?_
  try simp only [Act.put, List.setIfInBounds_toArray, List.set_cons_zero, List.set_cons_succ]
  refine AnyL.takeAt 2 (.pointer (some ⟨B, 2, none⟩)) rfl (by kernel_rfl) (by kernel_rfl) (by kernel_rfl) (by kernel_rfl) (fun _ _ _ h => h) rfl hS0 (by intro W hW; obtain ⟨q0, q1, ⟨q2, q3, q4, q5, q6⟩⟩ := hW; go_simp) ?_
  try simp only [Act.put, List.setIfInBounds_toArray, List.set_cons_zero, List.set_cons_succ]
  refine AnyL.takeAt 3 (.map (some M)) rfl (by kernel_rfl) (by kernel_rfl) (by kernel_rfl) (by kernel_rfl) (fun _ _ _ h => h) rfl hS0 (by intro W hW; obtain ⟨q0, q1, ⟨q2, q3, q4, q5, q6⟩⟩ := hW; go_simp) ?_
  try simp only [Act.put, List.setIfInBounds_toArray, List.set_cons_zero, List.set_cons_succ]
  refine AnyL.takeAt 4 (.agg #[.int .i64 k, .int .i64 m, .float .f64 g, .string x, .int .i64 r]) rfl (by kernel_rfl) (by kernel_rfl) (by kernel_rfl) (by kernel_rfl) (fun _ _ _ h => h) rfl hS0 (by intro W hW; obtain ⟨q0, q1, ⟨q2, q3, q4, q5, q6⟩⟩ := hW; go_simp) ?_
  try simp only [Act.put, List.setIfInBounds_toArray, List.set_cons_zero, List.set_cons_succ]
  refine AnyL.oneAt 5 rfl (by kernel_rfl) rfl ?_
  intro K hK
  go_simp
  refine (HK _).mono ?_
  rintro e w2 ⟨rfl, g2⟩
  have K2 : Hid (Kq w1 w2) := Kq.trans (Kq.drew (Kq.refl _)) g2
  have hS2 := (show ∀ W', Kq w1 W' → W'.cell? ⟨B, 2, none⟩ = some (.map (some M)) ∧ Mp W' M (kts (lsp F n)) ∧ Vc W' W.heap.size ⟨k, m, g, x, r⟩ from HS) w2 K2
  clear g2
  refine hK.out _ _ (fun _ => hS2) ?_
  clear hK K
  try simp only [Act.put, List.setIfInBounds_toArray, List.set_cons_zero, List.set_cons_succ]
  refine AnyL.takeAt 6 (.tuple #[.int .i64 tn, .bool ok]) rfl (by kernel_rfl) (by kernel_rfl) (by kernel_rfl) (by kernel_rfl) (fun _ _ _ h => h) rfl hS2 (by intro W hW; have hl := HL W hW.2.1; go_simp) ?_
  try simp only [Act.put, List.setIfInBounds_toArray, List.set_cons_zero, List.set_cons_succ]
  refine AnyL.takeAt 7 (.tuple #[.int .i64 tn, .bool ok]) rfl (by kernel_rfl) (by kernel_rfl) (by kernel_rfl) (by kernel_rfl) (fun _ _ _ h => h) rfl hS2 (by intro W hW; go_simp) ?_
  try simp only [Act.put, List.setIfInBounds_toArray, List.set_cons_zero, List.set_cons_succ]
  refine AnyL.takeAt 8 (.int .i64 tn) rfl (by kernel_rfl) (by kernel_rfl) (by kernel_rfl) (by kernel_rfl) (fun _ _ _ h => h) rfl hS2 (by intro W hW; go_simp) ?_
  try simp only [Act.put, List.setIfInBounds_toArray, List.set_cons_zero, List.set_cons_succ]
  refine AnyL.takeAt 9 (.bool ok) rfl (by kernel_rfl) (by kernel_rfl) (by kernel_rfl) (by kernel_rfl) (fun _ _ _ h => h) rfl hS2 (by intro W hW; go_simp) ?_
  try simp only [Act.put, List.setIfInBounds_toArray, List.set_cons_zero, List.set_cons_succ]
  refine AnyL.takeAt 10 (.int .i64 tn) rfl (by kernel_rfl) (by kernel_rfl) (by kernel_rfl) (by kernel_rfl) (fun _ _ _ h => h) rfl hS2 (by intro W hW; go_simp) ?_
  try simp only [Act.put, List.setIfInBounds_toArray, List.set_cons_zero, List.set_cons_succ]
  refine AnyL.takeAt 11 (.bool ok) rfl (by kernel_rfl) (by kernel_rfl) (by kernel_rfl) (by kernel_rfl) (fun _ _ _ h => h) rfl hS2 (by intro W hW; go_simp) ?_
  try simp only [Act.put, List.setIfInBounds_toArray, List.set_cons_zero, List.set_cons_succ]
  refine AnyL.done (by kernel_rfl) ?_
  have KW : Hid (Kq W w2) := Kq.trans HK1 K2
  have HB2 : Hid (Calls Try.prog 73 #[.pointer (some ⟨B, 0, none⟩), .int .i64 (tn - 1)] w2 fun e w' => ∃ r : Nat, e = .returned (.int .i64 (r : Int)) ∧ Bh n F (tn - 1) r ∧ Kq w2 w') := (show ∀ W', Kq W W' → _ from HBH) w2 KW
  clear hS0 hS2 HS HL HK K2 HK1 HBH
  go_wp2_with fail
  refine (show Calls Try.prog 73 #[.pointer (some ⟨B, 0, none⟩), .int .i64 (tn - 1)] w2 _ from HB2).mono ?_
  rintro e w3 ⟨r', rfl, hb, k3⟩
  have HE : Hid (Fu r' ok ∧ Kq W w3) := (⟨(show ∀ r, Bh n F (tn - 1) r → Fu r ok from HFH) r' hb, Kq.trans KW k3⟩ : _ ∧ _)
  clear HB2 HFH KW hb k3
  go_wp2_with fail
  refine bodyPost_ret (by simp [results, Try.results69, go_sem]; rfl) rfl ?_
  exact ⟨r', ok, rfl, (show Fu r' ok ∧ Kq W w3 from HE).1, (show Fu r' ok ∧ Kq W w3 from HE).2⟩
/-- the value at a key -/
def vz : Vv := ⟨0, 0, 0, ⟨#[]⟩, 0⟩
def Gt (n : Nat) (F : Nat → Pv) (u y : Vv) : Prop := (y = vz ∧ ∀ j, j < n → ¬ mk (F j).a = mk u) ∨ ∃ j, j < n ∧ mk (F j).a = mk u ∧ y = (F j).b
/-- what Get answers -/
def GtA (n : Nat) (F : Nat → Pv) (T c : Int) (u y : Vv) : Prop := (¬ (tok n F T ∧ c = 0) ∧ y = vz) ∨ (tok n F T ∧ c = 0 ∧ Gt n F u y)
theorem GtA.uniq {n : Nat} {F : Nat → Pv} {T c : Int} {u y z : Vv} (h : GtA n F T c u y) (g : GtA n F T c u z) : y = z := by
  rcases h with ⟨h1, rfl⟩ | ⟨h1, h2, h3⟩ <;> rcases g with ⟨g1, rfl⟩ | ⟨g1, g2, g3⟩
  · rfl
  · exact absurd ⟨g1, g2⟩ h1
  · exact absurd ⟨h1, h2⟩ g1
  · rcases h3 with ⟨rfl, h3⟩ | ⟨j, hj, e1, rfl⟩ <;> rcases g3 with ⟨rfl, g3⟩ | ⟨i, hi, e2, rfl⟩
    · rfl
    · exact absurd e2 (h3 i hi)
    · exact absurd e1 (g3 j hj)
    · rw [tok_mk h1 hj hi (e1.trans e2.symm)]
theorem GtA.glt {n : Nat} {F : Nat → Pv} {T c : Int} {u y : Vv} (h : GtA n F T c u y) (tb : Tb n F) : y.g < 18446744073709551616 := by
  rcases h with ⟨h1, rfl⟩ | ⟨h1, h2, ⟨rfl, h3⟩ | ⟨j, hj, e1, rfl⟩⟩
  · show (0 : Nat) < _; omega
  · show (0 : Nat) < _; omega
  · exact (tb.b j hj).g
theorem ky_key {v : Vv} {u : Vv} (h : Ky v 0 u) : kok u := by
  generalize hc : (0 : Int) = c at h
  cases h with
  | bad ho => omega
  | nil ho k0 => omega
  | nan ho k3 hn => omega
  | whole z ho k3 hw => exact kok_ki z
  | flt ho k3 hn hw => exact ⟨ho, by omega, fun _ => ⟨hn, hw⟩⟩
  | oth ho k0 k3 => exact ⟨ho, k0, fun h => absurd h k3⟩
end Go.Proofs.Ytfpidccjcemcjaa
