import Derived.Test.YtaoagjajjeddcaaSld
namespace Go.Proofs.Ytaoagjajjeddcaa.Fo
open Go.ChangeShapes Go.WideShapes Go.ChangeAt Go.RowKit
set_option linter.unusedVariables false
set_option maxRecDepth 100000

theorem qr_cells (w : World) (c : Array Value) (t : TypeId) (l : List Value) (hl : c.toList = l) : ∀ j u, l[j]? = some u → (w.alloc (.cells c t)).cell? ((⟨w.heap.size, 0, none⟩ : Addr).add j) = some u := by
  intro j u hj
  subst hl
  rw [addr0]
  exact cell_of (alloc_new w c t) (by simpa using hj)
theorem own_shape {W : World} {B t s n : Nat} {v : Value} {l : List Value} (h : W.ownsRow B t s v n l) : ∃ p c, v = .slice p n c := by
  rcases h.2 with ⟨e, e2⟩ | ⟨g, cap, cur, e, _⟩
  · exact ⟨none, 0, by rw [e, e2]⟩
  · exact ⟨_, _, e⟩
theorem kb_app {w wr w8 : World} {B t s n : Nat} {v : Value} {l : List Value} {ob : Obj} (hk : Kb 0 w wr) (ho : wr.ownsRow B t s v n l) (hB : w.heap.size ≤ B) (hg : (wr.alloc ob).grownBy w8 v.ownBlock) : Kb 0 w w8 :=
  ⟨hg.os.trans hk.os, hg.output.trans hk.output, by have := hg.size; rw [World.size_alloc] at this; have := hk.size; omega, fun q h1 h2 => by
    have hq := hk.size
    exact ((hg.block q (by rw [World.size_alloc]; omega) (fun e => by have := (ho.lt q e.symm).1; omega)).trans ((kb_alloc 0 wr ob).block q (Nat.zero_le _) (by omega))).trans (hk.block q h1 h2)⟩
theorem infoT : ∃ i1, Try.prog.info? 9 = some i1 ∧ i1.zero = some (.string ⟨#[]⟩) ∧ i1.size = 1 ∧ i1.bytes = 16 := ⟨Try.t9, by kernel_rfl, by kernel_rfl, by kernel_rfl, by kernel_rfl⟩
theorem rep_len (n : Nat) (t : ByteArray) : ((List.replicate n t).map Value.string).length = n := by rw [List.length_map, List.length_replicate]
theorem rep_app (n : Nat) (t : ByteArray) : (List.replicate n t).map Value.string ++ [.string t] = (List.replicate (n + 1) t).map Value.string := by rw [List.replicate_succ', List.map_append]; rfl
set_option maxHeartbeats 8000000 in
theorem sp_ln_3 {m k f l : Int} {x y z : ByteArray} {pk : Option Addr} {q ck : Nat} {N : Nat} (w : World) (hN : N ≤ 50) :
    Calls Try.prog 32 #[.agg #[.int .i64 3, .int .i64 (N : Int), .int .i64 m, .string x, .string y, .int .i64 k, .int .i64 f, .int .i64 l, .string z, .slice pk q ck]] w (LnP (List.replicate N { data := #[116, 105, 99, 107] }) w) := by
  obtain ⟨i1, hi1, hz0, hz1, hz2⟩ := infoT
  have HI1 : Hid (Try.prog.info? 9 = some i1) := hi1
  have hnI : (N : Int) ≤ 50 := by omega
  obtain ⟨w0, hw0⟩ : ∃ w0, w0 = w.alloc (.cells #[.int .i64 3, .int .i64 (N : Int), .int .i64 m, .string x, .string y, .int .i64 k, .int .i64 f, .int .i64 l, .string z, .slice pk q ck] 35) := ⟨_, rfl⟩
  have bw0 : w0.heap[w.heap.size]? = some (.cells #[.int .i64 3, .int .i64 (N : Int), .int .i64 m, .string x, .string y, .int .i64 k, .int .i64 f, .int .i64 l, .string z, .slice pk q ck] 35 (0, 0)) := by rw [hw0]; exact alloc_new _ _ _
  have c0 : w0.cell? ⟨w.heap.size, 0, none⟩ = some (.int .i64 3) := cell_of bw0 rfl
  have HC1 : Hid (w0.cell? ⟨w.heap.size, 1, none⟩ = some (.int .i64 (N : Int))) := cell_of bw0 rfl
  have HK0 : Hid (Kb 0 w w0) := by rw [hw0]; exact kb_alloc _ _ _
  have HW : Hid (w0 = _) := hw0
  have HNN : Hid (N ≤ 50) := hN
  clear hi1 hw0 bw0 hN
  go_enter Try.func32, Try.ntmps32
  go_upto_region 1 with fail
  rw [← (show w0 = _ from HW)]
  clear HW
  go_wp2_with fail
  clear c0
  go_loopw [3, 4] (fun s3 s4 wr => ∃ (i : Nat), s4 = .int .i64 (i : Int) ∧ i ≤ N ∧ Hid (wr.ownsRow w0.heap.size 9 1 s3 i ((List.replicate i { data := #[116, 105, 99, 107] }).map Value.string) ∧ Kb 0 w0 wr)) (fun _ s4 _ => N - (intOf s4).toNat)
  case atStart => exact ⟨0, rfl, Nat.zero_le _, (⟨World.ownsRow_nil _ _ _ _, Kb.refl _ _⟩ : _ ∧ _)⟩
  case round =>
    obtain ⟨i, rfl, hil, HX⟩ := hrel
    obtain ⟨ho, hk⟩ := (show _ ∧ _ from HX)
    obtain ⟨pv, cv, rfl⟩ := own_shape ho
    clear HX
    have c1 : wr.cell? ⟨w.heap.size, 1, none⟩ = some (.int .i64 (N : Int)) := hk.cell (show w0.cell? _ = _ from HC1)
    by_cases hi : i < N
    case neg =>
      obtain rfl : i = N := by omega
      have HE : Hid (RowS wr (.slice pv i cv) (List.replicate i { data := #[116, 105, 99, 107] }) ∧ Kb 0 w wr) := (⟨rows_own (B := w0.heap.size) (by rw [List.length_replicate]; exact ho), (show Kb 0 w w0 from HK0).trans hk⟩ : _ ∧ _)
      clear ho hk HI1 hz0 hz1 hz2
      go_wp2_with fail
      go_ret
      exact ⟨_, rfl, HE⟩
    have hiI : (i : Int) < (N : Int) := by omega
    have HK : Hid (Kb 0 w0 wr) := hk
    have HOW : Hid (wr.ownsRow w0.heap.size 9 1 (.slice pv i cv) i ((List.replicate i { data := #[116, 105, 99, 107] }).map Value.string)) := ho
    have HZ : Hid (w0.heap.size ≤ wr.heap.size) := hk.size
    clear hk ho
    go_wp2_with (refine wpList_append_lies _ (by rfl) (.tmp 30) (.tmp 31) 41 (by rfl) w0.heap.size 9 i1 (.string ⟨#[]⟩) 1 16 Try.underlying41 HI1 hz0 hz1 hz2 rfl (by decide) (.slice pv i cv) i ((List.replicate i { data := #[116, 105, 99, 107] }).map Value.string) (by rfl) ((show wr.ownsRow w0.heap.size 9 1 (.slice pv i cv) i ((List.replicate i { data := #[116, 105, 99, 107] }).map Value.string) from HOW).alloc _) ⟨wr.heap.size, 0, none⟩ 1 1 [.string { data := #[116, 105, 99, 107] }] (by rfl) rfl (qr_cells wr #[.string { data := #[116, 105, 99, 107] }] 9 [.string { data := #[116, 105, 99, 107] }] rfl) (by intro y hy; simp only [List.mem_cons, List.not_mem_nil, or_false] at hy; rcases hy with rfl; rfl) (by decide) (by unfold maxLen; omega) (by omega) (by rw [World.size_alloc]; have := (show w0.heap.size ≤ wr.heap.size from HZ); omega) (wr.heap.size + 1) (World.size_alloc _ _) ?_; intro g cap w8 hown1 hgrow1 hat hlt; have HN : Hid (w8.ownsRow w0.heap.size 9 1 (.slice (some ⟨g, 0, none⟩) (i + 1) cap) (i + 1) ((List.replicate (i + 1) { data := #[116, 105, 99, 107] }).map Value.string) ∧ Kb 0 w0 w8) := (⟨by rw [← rep_app]; exact hown1, kb_app (show Kb 0 w0 wr from HK) (show wr.ownsRow w0.heap.size 9 1 (.slice pv i cv) i ((List.replicate i { data := #[116, 105, 99, 107] }).map Value.string) from HOW) (Nat.le_refl _) hgrow1⟩ : _ ∧ _); clear hown1 hgrow1 hat hlt)
    go_roundw
    case rel => exact ⟨i + 1, by go_num, by omega, HN⟩
    case measure => simp [intOf]; omega
theorem sp_lines {op n m k f l : Int} {x y z : ByteArray} {pk : Option Addr} {q ck : Nat} (w : World) (hn : op = 3 → 0 ≤ n ∧ n ≤ 50) : Calls Try.prog 32 #[.agg #[.int .i64 op, .int .i64 n, .int .i64 m, .string x, .string y, .int .i64 k, .int .i64 f, .int .i64 l, .string z, .slice pk q ck]] w (LnP (lns op n x y) w) := by
  unfold lns
  by_cases h1 : op = 1
  · subst h1; rw [if_pos rfl]; exact sp_ln_1 w
  rw [if_neg h1]
  by_cases h2 : op = 2
  · subst h2; rw [if_pos rfl]; exact sp_ln_2 w
  rw [if_neg h2]
  by_cases h3 : op = 3
  · subst h3
    rw [if_pos rfl]
    obtain ⟨N, rfl⟩ : ∃ N : Nat, n = (N : Int) := ⟨n.toNat, by have := hn rfl; omega⟩
    rw [Int.toNat_natCast]
    exact sp_ln_3 w (by have := hn rfl; omega)
  rw [if_neg h3]
  by_cases h4 : op = 4
  · subst h4; rw [if_pos rfl]; exact sp_ln_4 w
  rw [if_neg h4]
  exact sp_ln_x w h1 h2 h3 h4
end Go.Proofs.Ytaoagjajjeddcaa.Fo
