import Derived.Test.YtbbjbojjglhgmaaGpb
import Derived.Laws.Bits64b
namespace Go.Proofs.Ytbbjbojjglhgmaa.Fo
open Go.ChangeShapes Go.WideShapes Go.ChangeAt Go.RowKit
set_option linter.unusedVariables false
set_option maxRecDepth 100000
theorem or128 : ∀ b : Fin 128, (b.val ||| 128) = b.val + 128 := by decide
/-- a group that is not the last -/
theorem grp (X : Nat) (h : X < 18446744073709551616) : bits BinOp.or IntKind.u64 (bits BinOp.and IntKind.u64 (X : Int) 127) 128 = ((X % 128 + 128 : Nat) : Int) := by
  have e1 : bits BinOp.and IntKind.u64 (X : Int) 127 = ((X % 128 : Nat) : Int) := by
    have := bits_and_u64_nat X 127 h (by decide)
    rw [show X &&& 127 = X % 128 from Nat.and_two_pow_sub_one_eq_mod X 7] at this
    exact this
  rw [e1]
  have e2 := bits_or_u64_nat (X % 128) 128 (by omega) (by decide)
  rw [or128 ⟨X % 128, Nat.mod_lt _ (by decide)⟩] at e2
  exact e2
set_option maxHeartbeats 8000000 in
theorem sp_num {B : Nat} {v : Value} {l : List Int} (n : Nat) (w : World) (h : w.ownsRow B 5 1 v l.length (bvs l)) (hB : B ≤ w.heap.size) (hl : l.length ≤ 1000000000) (hn : n < 18446744073709551616) :
    Calls Try.prog 123 #[v, .int .u64 (n : Int)] w fun e w' => ∃ v', e = .returned v' ∧ w'.ownsRow B 5 1 v' (l ++ numb n).length (bvs (l ++ numb n)) ∧ Kx B w w' := by
  obtain ⟨E, hE⟩ : ∃ E, E = l ++ numb n := ⟨_, rfl⟩
  rw [← hE]
  obtain ⟨i0, hi0, hz0, hz1, hz2⟩ := info_parts infoB
  have HI0 : Hid (Try.prog.info? 5 = some i0) := hi0
  have HS : Hid (w.ownsRow B 5 1 v l.length (bvs l) ∧ Kx B w w ∧ l ++ numb n = E) := (⟨h, Kx.refl _ _, hE.symm⟩ : _ ∧ _)
  obtain ⟨ad, cap, rfl⟩ := own_shape h
  have HB : Hid (B ≤ w.heap.size ∧ l.length ≤ 1000000000 ∧ E.length ≤ l.length + 10) := (⟨hB, hl, by have := numb_ten hn; rw [hE, List.length_append]; omega⟩ : _ ∧ _)
  clear h hB hl hi0 hE
  go_enter Try.func123, Try.ntmps123
  go_wp2_with fail
  go_loopw [0, 1] (fun s0 s1 wr => ∃ (X : Nat) (k : List Int), s1 = .int .u64 (X : Int) ∧ X < 18446744073709551616 ∧ Hid (wr.ownsRow B 5 1 s0 k.length (bvs k) ∧ Kx B w wr ∧ k ++ numb X = E)) (fun _ s1 _ => (intOf s1).toNat)
  case atStart => exact ⟨n, l, rfl, hn, HS⟩
  case round =>
    clear HS
    obtain ⟨X, k, rfl, hX1, HX⟩ := hrel
    obtain ⟨ho, hx, he⟩ := (show wr.ownsRow B 5 1 _ k.length (bvs k) ∧ Kx B w wr ∧ k ++ numb X = E from HX)
    obtain ⟨ad, cap, rfl⟩ := own_shape ho
    obtain ⟨hB, hl, h10⟩ := (show B ≤ w.heap.size ∧ l.length ≤ 1000000000 ∧ E.length ≤ l.length + 10 from HB)
    have hlen : k.length + (numb X).length = E.length := by rw [← List.length_append, he]
    obtain ⟨L, hL⟩ : ∃ L, L = k.length := ⟨_, rfl⟩
    obtain ⟨LV, hLV⟩ : ∃ LV, LV = bvs k := ⟨_, rfl⟩
    have hL1 : L ≤ 1000000010 := by omega
    rw [← hL, ← hLV] at ho
    rw [← hL]
    have howna : ∀ ob : Obj, (wr.alloc ob).ownsRow B 5 1 (.slice ad L cap) L LV := fun ob => ho.alloc ob
    have hbs : B ≤ wr.heap.size := Nat.le_trans hB hx.size
    have HST : Hid (∀ (y : Int) (ob : Obj) (v' : Value) (w5 : World), w5.ownsRow B 5 1 v' (L + 1) (LV ++ [.int .u8 y]) → (wr.alloc ob).grownBy w5 (Value.slice ad L cap).ownBlock → w5.ownsRow B 5 1 v' (k ++ [y]).length (bvs (k ++ [y])) ∧ Kx B w w5) := (fun y ob v' w5 h5 g5 => by
      refine ⟨?_, hx.trans ((Kx.of_kb (kb_alloc 0 wr ob)).trans (Kx.grown (howna ob) g5))⟩
      have e1 : (k ++ [y]).length = L + 1 := by rw [hL, List.length_append]; rfl
      have e2 : bvs (k ++ [y]) = LV ++ [.int .u8 y] := by rw [hLV]; unfold bvs; rw [List.map_append]; rfl
      rw [e1, e2]
      exact h5 : ∀ (y : Int) (ob : Obj) (v' : Value) (w5 : World), _)
    by_cases hs : X ≤ 127
    · have hsI : ¬ (127 : Int) < (X : Int) := by omega
      have HE : Hid (k ++ [(X : Int)] = E) := by
        rw [numb_lt hs] at he
        exact he
      have hqc : ∀ (j : Nat) (u : Value), ([.int .u8 (X : Int)] : List Value)[j]? = some u → (wr.alloc (.cells #[.int .u8 (X : Int)] 5)).cell? ((⟨wr.heap.size, 0, none⟩ : Addr).add j) = some u := qr_cells wr #[.int .u8 (X : Int)] 5 [.int .u8 (X : Int)] rfl
      have h1c : ∀ u ∈ ([.int .u8 (X : Int)] : List Value), u.oneCell' = true := by intro u hu; simp at hu; subst hu; rfl
      have hXm : (X : Int) % 256 = (X : Int) := by omega
      clear HX hx ho hB hl hlen hL hLV HB he h10
      go_wp2_with (at_builtin; refine wpList_append_own _ rfl (.tmp 16) (.tmp 19) 22 rfl B 5 i0 (.int .u8 0) 1 1 Try.underlying22 HI0 hz0 hz1 hz2 rfl (by decide) _ _ _ rfl (howna _) ⟨wr.heap.size, 0, none⟩ 1 1 [.int .u8 (X : Int)] rfl rfl hqc h1c (by unfold maxLen; omega) (by omega) (by simp; omega) ?_; intro v' w5 hown1 hgrow1 _; obtain ⟨p1, p2⟩ := (show ∀ (y : Int) (ob : Obj) (v' : Value) (w5 : World), _ from HST) _ _ _ _ hown1 hgrow1; have HP : Hid (w5.ownsRow B 5 1 v' (k ++ [(X : Int)]).length (bvs (k ++ [(X : Int)])) ∧ Kx B w w5) := (⟨p1, p2⟩ : _ ∧ _); clear HST hown1 hgrow1 howna hqc h1c p1 p2)
      go_ret
      rw [← (show k ++ [(X : Int)] = _ from HE)]
      exact ⟨_, rfl, HP⟩
    have hsI : (127 : Int) < (X : Int) := by omega
    have HE : Hid (k ++ [((X % 128 + 128 : Nat) : Int)] ++ numb (X / 128) = E) := by
      rw [numb_ge hs] at he
      show k ++ [((X % 128 + 128 : Nat) : Int)] ++ numb (X / 128) = E
      rw [← he, List.append_assoc]
      rfl
    obtain ⟨Y, hY⟩ : ∃ Y : Int, Y = ((X % 128 + 128 : Nat) : Int) := ⟨_, rfl⟩
    have hbit : bits BinOp.or IntKind.u64 (bits BinOp.and IntKind.u64 (X : Int) 127) 128 % 256 = Y := by rw [grp X hX1, hY]; omega
    rw [← hY] at HE
    have hqc : ∀ (j : Nat) (u : Value), ([.int .u8 Y] : List Value)[j]? = some u → (wr.alloc (.cells #[.int .u8 Y] 5)).cell? ((⟨wr.heap.size, 0, none⟩ : Addr).add j) = some u := qr_cells wr #[.int .u8 Y] 5 [.int .u8 Y] rfl
    have h1c : ∀ u ∈ ([.int .u8 Y] : List Value), u.oneCell' = true := by intro u hu; simp at hu; subst hu; rfl
    clear HX hx ho hB hl hlen hL hLV HB he h10 hY
    go_upto_region 3 with (at_builtin; refine wpList_append_own _ rfl (.tmp 7) (.tmp 12) 22 rfl B 5 i0 (.int .u8 0) 1 1 Try.underlying22 HI0 hz0 hz1 hz2 rfl (by decide) _ _ _ rfl (howna _) ⟨wr.heap.size, 0, none⟩ 1 1 [.int .u8 Y] rfl rfl hqc h1c (by unfold maxLen; omega) (by omega) (by simp; omega) ?_; intro v' w5 hown1 hgrow1 _; obtain ⟨p1, p2⟩ := (show ∀ (y : Int) (ob : Obj) (v' : Value) (w5 : World), _ from HST) _ _ _ _ hown1 hgrow1; have HP : Hid (w5.ownsRow B 5 1 v' (k ++ [Y]).length (bvs (k ++ [Y])) ∧ Kx B w w5) := (⟨p1, p2⟩ : _ ∧ _); clear HST hown1 hgrow1 howna hqc h1c p1 p2)
    clear hbit
    go_wp2_with fail
    go_roundw
    case rel => exact ⟨X / 128, k ++ [Y], congrArg (Value.int .u64) (by omega), by omega, ⟨(show _ ∧ _ from HP).1, (show _ ∧ _ from HP).2, HE⟩⟩
    case measure => simp [intOf]; omega
end Go.Proofs.Ytbbjbojjglhgmaa.Fo
