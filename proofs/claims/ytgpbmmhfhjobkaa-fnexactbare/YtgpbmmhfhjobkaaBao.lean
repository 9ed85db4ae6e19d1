import Derived.Test.YtgpbmmhfhjobkaaBan
import Derived.Test.YtgpbmmhfhjobkaaShelfC
import Derived.OwnWalk
import Derived.WalkSpells
namespace Go.Proofs.Ytgpbmmhfhjobkaa
open Go.ChangeShapes Go.WideShapes Go.ChangeAt Go.RowKit
set_option linter.unusedVariables false
theorem info3 : (Try.prog.info? 3).map (fun i => (i.zero, i.size, i.bytes)) = some (some (.int .i64 0), 1, 8) := by kernel_rfl
theorem info9 : (Try.prog.info? 9).map (fun i => (i.zero, i.size, i.bytes)) = some (some (.string ⟨#[]⟩), 1, 16) := by kernel_rfl
theorem info38 : (Try.prog.info? 38).map (fun i => (i.zero, i.size, i.bytes)) = some (some z9, 9, 112) := by kernel_rfl
/-- the first n of a row, as a list -/
def lst (A : Nat → Value) (n : Nat) : List Value := (List.range n).map A
theorem lst_len (A : Nat → Value) (n : Nat) : (lst A n).length = n := by simp [lst]
theorem lst_get (A : Nat → Value) (n j : Nat) (u : Value) (h : (lst A n)[j]? = some u) : j < n ∧ u = A j := by
  have hl : j < n := by
    rcases Nat.lt_or_ge j n with h1 | h1
    · exact h1
    · rw [List.getElem?_eq_none (by rw [lst_len]; exact h1)] at h; cases h
  refine ⟨hl, ?_⟩
  simp [lst, hl] at h
  exact h.symm
theorem lst_at (A : Nat → Value) (n j : Nat) (h : j < n) : (lst A n)[j]? = some (A j) := by simp [lst, h]
theorem lst_succ (A : Nat → Value) (n : Nat) : lst A (n + 1) = lst A n ++ [A n] := by simp [lst, List.range_succ]
theorem own_of {W : World} {base e n : Nat} {v : Value} {A : Nat → Value} (h : W.ownsRow base e 1 v n (lst A n)) : ∃ g, OwnR W v g n A ∧ (0 < n → base ≤ g ∧ g < W.heap.size) := by
  rcases h.2 with ⟨rfl, rfl⟩ | ⟨g, cap, cur, rfl, hb, hg, hn, _, _, ht⟩
  · exact ⟨0, ⟨⟨none, 0, rfl, fun f => by omega⟩, fun i hi => by omega, fun f => by omega⟩, fun f => by omega⟩
  · refine ⟨g, ⟨⟨_, cap, rfl, fun _ => ⟨rfl, hn⟩⟩, fun i hi => ?_, fun _ j => by simp [World.frozen?, hg]⟩, fun _ => ⟨hb, (Array.getElem?_eq_some_iff.1 hg).1⟩⟩
    have h1 := lst_at A n i hi
    rw [← ht, Nat.mul_one, List.getElem?_take, if_pos hi] at h1
    simpa [World.cell?, hg] using h1
theorem qr_cells (w : World) (c : Array Value) (t : TypeId) (l : List Value) (hl : c.toList = l) : ∀ j u, l[j]? = some u → (w.alloc (.cells c t)).cell? ((⟨w.heap.size, 0, none⟩ : Addr).add j) = some u := by
  intro j u hj
  subst hl
  rw [add0, World.cell?_alloc_mark]
  simpa using hj
theorem rowBlk {W W' : World} {base e size : Nat} {v : Value} {n : Nat} {xs : List Value} (h : W.ownsRow base e size v n xs) (hk : ∀ g, v.ownBlock = some g → W'.heap[g]? = W.heap[g]?) : W'.ownsRow base e size v n xs := by
  refine ⟨h.1, ?_⟩
  rcases h.2 with h | ⟨g, cap, cur, e1, e2, e3, e4⟩
  · exact .inl h
  · exact .inr ⟨g, cap, cur, e1, e2, (hk g (by rw [e1]; rfl)).trans e3, e4⟩
theorem ownsRow_mono' {W : World} {base base' e size : Nat} {v : Value} {n : Nat} {xs : List Value} (h : W.ownsRow base e size v n xs) (hb : base' ≤ base) : W.ownsRow base' e size v n xs := by
  refine ⟨h.1, ?_⟩
  rcases h.2 with h | ⟨g, cap, cur, e1, e2, e3⟩
  · exact .inl h
  · exact .inr ⟨g, cap, cur, e1, by omega, e3⟩
set_option maxRecDepth 100000 in
theorem clone_str (s : ByteArray) (w : World) (h : s.size ≤ 140737488355328) : Calls Try.prog 14 #[.string s] w fun e w' => e = .returned (.string s) ∧ Below w.heap.size w w' := by
  have hc := fun W => Try.stringslite_Clone s W (by omega)
  clear h
  go_enter Try.func14, Try.ntmps14
  go_wp2_with fail
  refine (hc _).mono ?_
  rintro e w1 ⟨rfl, hb⟩
  go_wp2_with fail
  go_ret
  exact ⟨rfl, hb⟩
set_option maxRecDepth 100000 in
set_option maxHeartbeats 4000000 in
theorem clone_ints {va : Value} {n : Nat} {A : Nat → Int} (w : World) (ha : RowV w va n (fun i => .int .i64 (A i))) (hn : n ≤ 1048576) :
    Calls Try.prog 16 #[va] w fun e w' => ∃ v g, e = .returned v ∧ OwnR w' v g n (fun i => .int .i64 (A i)) ∧ (0 < n → w.heap.size ≤ g ∧ g < w'.heap.size) ∧ Below w.heap.size w w' := by
  obtain ⟨pa, ca, rfl, ha2⟩ := ha
  obtain ⟨i0, hi0, hz0, hz1, hz2⟩ := info_parts info3
  have HI0 : Hid (Try.prog.info? 3 = some i0) := hi0
  clear hi0
  cases pa with
  | none =>
    obtain rfl : n = 0 := by
      rcases Nat.eq_zero_or_pos n with h | h
      · exact h
      · obtain ⟨a, h1, _⟩ := ha2 h
        cases h1
    clear ha2
    have hq := Lib.run_eql_slice_nil (P := Try.prog) w 36 3 none 0 ca 0 0 Try.underlying36
    rw [show (none : Option Addr).isNone = true from rfl] at hq
    go_enter Try.func16, Try.ntmps16
    go_wp2_with fail
    go_ret
    exact ⟨_, 0, rfl, ⟨⟨_, _, rfl, fun f => by omega⟩, fun i hi => by omega, fun f => by omega⟩, fun f => by omega, Below.refl _ _⟩
  | some a =>
    have hcell : ∀ j u, (lst (fun i => .int .i64 (A i)) n)[j]? = some u → w.cell? (a.add j) = some u := by
      intro j u hu
      obtain ⟨h1, rfl⟩ := lst_get _ _ _ _ hu
      obtain ⟨a', h2, _, h3⟩ := ha2 (by omega)
      cases h2
      exact h3 j h1
    have hone : ∀ u ∈ lst (fun i => .int .i64 (A i)) n, u.oneCell' = true := by
      intro u hu
      simp [lst] at hu
      obtain ⟨j, _, rfl⟩ := hu
      rfl
    have HC : Hid (∀ (o : Obj) j u, (lst (fun i => .int .i64 (A i)) n)[j]? = some u → (w.alloc o).cell? (a.add j) = some u) := (fun o j u hu => (bel1 w o).cell (lt_of_cell' (hcell j u hu)) |>.trans (hcell j u hu) : ∀ (o : Obj) j u, _)
    have HO : Hid ((w.alloc (.cells #[] 3)).ownsRow w.heap.size 3 1 (.slice (some ⟨w.heap.size, 0, none⟩) 0 0) 0 []) := World.ownsRow_made w #[] 0 (Nat.le_refl _) (by unfold maxLen; omega) rfl
    have HL : Hid ((lst (fun i => .int .i64 (A i)) n).length = n * 1) := by show _ = _; rw [lst_len]; omega
    have HM : Hid (0 + n ≤ maxLen ∧ (0 + n) * 8 ≤ 140737488355328) := (⟨by unfold maxLen; omega, by omega⟩ : _ ∧ _)
    have hq := Lib.run_eql_slice_nil (P := Try.prog) w 36 3 (some a) n ca 0 0 Try.underlying36
    rw [show (some a : Option Addr).isNone = false from rfl] at hq
    clear hcell ha2 hn
    go_enter Try.func16, Try.ntmps16
    go_wp2_with (at_builtin; refine wpList_append_own _ rfl (.tmp 5) (.tmp 6) 36 rfl w.heap.size 3 i0 (.int .i64 0) 1 8 Try.underlying36 HI0 hz0 hz1 hz2 rfl (by decide) _ _ _ rfl HO a n ca (lst (fun i => .int .i64 (A i)) n) rfl HL (HC _) hone HM.1 HM.2 (by simp) ?_; intro v' w2 hown1 hgrow1 _)
    go_ret
    rw [Nat.zero_add, List.nil_append] at hown1
    obtain ⟨g, h1, h2⟩ := own_of hown1
    refine ⟨_, g, rfl, h1, h2, ?_⟩
    have hg := hgrow1
    exact (bel1 w _).grown hg (by simp) (fun k hk => by cases hk; exact Nat.le_refl _)
set_option maxRecDepth 100000 in
set_option maxHeartbeats 4000000 in
theorem clone_strs0 {va : Value} {n : Nat} {A : Nat → ByteArray} (w : World) (ha : RowV w va n (fun i => .string (A i))) (hn : n ≤ 1048576) :
    Calls Try.prog 23 #[va] w fun e w' => ∃ v g, e = .returned v ∧ OwnR w' v g n (fun i => .string (A i)) ∧ (0 < n → w.heap.size ≤ g ∧ g < w'.heap.size) ∧ Below w.heap.size w w' := by
  obtain ⟨pa, ca, rfl, ha2⟩ := ha
  obtain ⟨i0, hi0, hz0, hz1, hz2⟩ := info_parts info9
  have HI0 : Hid (Try.prog.info? 9 = some i0) := hi0
  clear hi0
  cases pa with
  | none =>
    obtain rfl : n = 0 := by
      rcases Nat.eq_zero_or_pos n with h | h
      · exact h
      · obtain ⟨a, h1, _⟩ := ha2 h
        cases h1
    clear ha2
    have hq := Lib.run_eql_slice_nil (P := Try.prog) w 35 9 none 0 ca 0 0 Try.underlying35
    rw [show (none : Option Addr).isNone = true from rfl] at hq
    go_enter Try.func23, Try.ntmps23
    go_wp2_with fail
    go_ret
    exact ⟨_, 0, rfl, ⟨⟨_, _, rfl, fun f => by omega⟩, fun i hi => by omega, fun f => by omega⟩, fun f => by omega, Below.refl _ _⟩
  | some a =>
    have hcell : ∀ j u, (lst (fun i => .string (A i)) n)[j]? = some u → w.cell? (a.add j) = some u := by
      intro j u hu
      obtain ⟨h1, rfl⟩ := lst_get _ _ _ _ hu
      obtain ⟨a', h2, _, h3⟩ := ha2 (by omega)
      cases h2
      exact h3 j h1
    have hone : ∀ u ∈ lst (fun i => .string (A i)) n, u.oneCell' = true := by
      intro u hu
      simp [lst] at hu
      obtain ⟨j, _, rfl⟩ := hu
      rfl
    have HC : Hid (∀ (o : Obj) j u, (lst (fun i => .string (A i)) n)[j]? = some u → (w.alloc o).cell? (a.add j) = some u) := (fun o j u hu => (bel1 w o).cell (lt_of_cell' (hcell j u hu)) |>.trans (hcell j u hu) : ∀ (o : Obj) j u, _)
    have HO : Hid ((w.alloc (.cells #[] 9)).ownsRow w.heap.size 9 1 (.slice (some ⟨w.heap.size, 0, none⟩) 0 0) 0 []) := World.ownsRow_made w #[] 0 (Nat.le_refl _) (by unfold maxLen; omega) rfl
    have HL : Hid ((lst (fun i => .string (A i)) n).length = n * 1) := by show _ = _; rw [lst_len]; omega
    have HM : Hid (0 + n ≤ maxLen ∧ (0 + n) * 16 ≤ 140737488355328) := (⟨by unfold maxLen; omega, by omega⟩ : _ ∧ _)
    have hq := Lib.run_eql_slice_nil (P := Try.prog) w 35 9 (some a) n ca 0 0 Try.underlying35
    rw [show (some a : Option Addr).isNone = false from rfl] at hq
    clear hcell ha2 hn
    go_enter Try.func23, Try.ntmps23
    go_wp2_with (at_builtin; refine wpList_append_own _ rfl (.tmp 5) (.tmp 6) 35 rfl w.heap.size 9 i0 (.string ⟨#[]⟩) 1 16 Try.underlying35 HI0 hz0 hz1 hz2 rfl (by decide) _ _ _ rfl HO a n ca (lst (fun i => .string (A i)) n) rfl HL (HC _) hone HM.1 HM.2 (by simp) ?_; intro v' w2 hown1 hgrow1 _)
    go_ret
    rw [Nat.zero_add, List.nil_append] at hown1
    obtain ⟨g, h1, h2⟩ := own_of hown1
    refine ⟨_, g, rfl, h1, h2, ?_⟩
    have hg := hgrow1
    exact (bel1 w _).grown hg (by simp) (fun k hk => by cases hk; exact Nat.le_refl _)
end Go.Proofs.Ytgpbmmhfhjobkaa
