import Derived.Laws.Bits64b
import Derived.Lib.AppendStr
import Derived.Test.YtamcnmnaadpfoaaMGde
import Derived.Test.YtamcnmnaadpfoaaMSup
namespace Go.Proofs.Ytamcnmnaadpfoaa.Fo
open Go.ChangeShapes Go.WideShapes Go.ChangeAt Go.RowKit
set_option linter.unusedVariables false
set_option maxRecDepth 100000
abbrev bvs (l : List Int) : List Value := l.map (fun x => Value.int .u8 x)
/-- all that was there is kept, but for rows of bytes from B on -/
structure Kx (B : Nat) (w w' : World) : Prop where
  os : w'.os = w.os
  output : w'.output = w.output
  size : w.heap.size ≤ w'.heap.size
  lo : ∀ k, k < B → k < w.heap.size → w'.heap[k]? = w.heap[k]?
  nt : ∀ (k : Nat) (c : Array Value) (t : TypeId), w.heap[k]? = some (.cells c t (0, 0)) → t ≠ 5 → w'.heap[k]? = w.heap[k]?
theorem Kx.refl (B : Nat) (w : World) : Kx B w w := ⟨rfl, rfl, Nat.le_refl _, fun _ _ _ => rfl, fun _ _ _ _ _ => rfl⟩
theorem Kx.trans {B : Nat} {a b c : World} (h : Kx B a b) (k : Kx B b c) : Kx B a c :=
  ⟨k.os.trans h.os, k.output.trans h.output, Nat.le_trans h.size k.size, fun i h1 h2 => (k.lo i h1 (Nat.lt_of_lt_of_le h2 h.size)).trans (h.lo i h1 h2), fun i q t h1 h2 => (k.nt i q t ((h.nt i q t h1 h2).trans h1) h2).trans (h.nt i q t h1 h2)⟩
theorem Kx.of_kb {B : Nat} {w w' : World} (k : Kb 0 w w') : Kx B w w' := ⟨k.os, k.output, k.size, fun i _ h => k.block i (Nat.zero_le _) h, fun i _ _ h _ => k.block i (Nat.zero_le _) (Array.getElem?_eq_some_iff.1 h).1⟩
/-- a byte row grew -/
theorem Kx.grown {B n : Nat} {w w' : World} {v : Value} {l : List Value} (h : w.ownsRow B 5 1 v n l) (g : w.grownBy w' v.ownBlock) : Kx B w w' :=
  ⟨g.os, g.output, g.size, fun k h1 h2 => g.block k h2 (fun e => by have := (h.lt k e.symm).1; omega), fun k c t h1 h2 => g.block k (Array.getElem?_eq_some_iff.1 h1).1 (fun e => own_ty h h1 (fun q => h2 q.symm) e.symm rfl)⟩
/-- the first k bytes of a number, the low ones first -/
def eig (n : Nat) : Nat → List Int
  | 0 => []
  | k + 1 => eig n k ++ [((n / 256 ^ k % 256 : Nat) : Int)]
theorem eig_len (n : Nat) : ∀ k, (eig n k).length = k
  | 0 => rfl
  | k + 1 => by show (eig n k ++ [_]).length = _; rw [List.length_append, eig_len n k]; rfl
theorem infoB : (Try.prog.info? 5).map (fun i => (i.zero, i.size, i.bytes)) = some (some (.int .u8 0), 1, 1) := by kernel_rfl
set_option maxHeartbeats 8000000 in
theorem sp_eight {B : Nat} {v : Value} {l : List Int} (n : Nat) (w : World) (h : w.ownsRow B 5 1 v l.length (bvs l)) (hB : B ≤ w.heap.size) (hl : l.length ≤ 1000000000) (hn : n < 18446744073709551616) :
    Calls Try.prog 75 #[v, .int .u64 (n : Int)] w fun e w' => ∃ v', e = .returned v' ∧ w'.ownsRow B 5 1 v' (l ++ eig n 8).length (bvs (l ++ eig n 8)) ∧ Kx B w w' := by
  obtain ⟨i0, hi0, hz0, hz1, hz2⟩ := info_parts infoB
  have HI0 : Hid (Try.prog.info? 5 = some i0) := hi0
  have HS : Hid (w.ownsRow B 5 1 v (l ++ eig n 0).length (bvs (l ++ eig n 0)) ∧ Kx B w w) := by
    show w.ownsRow B 5 1 v (l ++ []).length (bvs (l ++ [])) ∧ Kx B w w
    rw [List.append_nil]
    exact ⟨h, Kx.refl _ _⟩
  obtain ⟨ad, cap, rfl⟩ := own_shape h
  have HB : Hid (B ≤ w.heap.size ∧ l.length ≤ 1000000000) := (⟨hB, hl⟩ : _ ∧ _)
  clear h hB hl hi0
  go_enter Try.func75, Try.ntmps75
  go_wp2_with fail
  go_loopw [0, 1, 5] (fun s0 s1 s5 wr => ∃ k : Nat, s5 = .int .i64 (k : Int) ∧ k ≤ 8 ∧ s1 = .int .u64 ((n / 256 ^ k : Nat) : Int) ∧ Hid (wr.ownsRow B 5 1 s0 (l ++ eig n k).length (bvs (l ++ eig n k)) ∧ Kx B w wr)) (fun _ _ s5 _ => 8 - (intOf s5).toNat)
  case atStart => exact ⟨0, rfl, by omega, by simp, HS⟩
  case round =>
    clear HS
    obtain ⟨k, rfl, hk, rfl, HX⟩ := hrel
    obtain ⟨ho, hx⟩ := (show wr.ownsRow B 5 1 _ (l ++ eig n k).length (bvs (l ++ eig n k)) ∧ Kx B w wr from HX)
    rcases Nat.lt_or_ge k 8 with hk8 | hk8
    case inr =>
      obtain rfl : k = 8 := by omega
      clear ho hx
      go_wp2_with fail
      go_ret
      exact ⟨_, rfl, HX⟩
    have hkI : (k : Int) < 8 := by omega
    obtain ⟨X, hX⟩ : ∃ X : Nat, X = n / 256 ^ k := ⟨_, rfl⟩
    have hX1 : X < 18446744073709551616 := by rw [hX]; exact Nat.lt_of_le_of_lt (Nat.div_le_self _ _) hn
    rw [← hX]
    obtain ⟨ad, cap, rfl⟩ := own_shape ho
    obtain ⟨hB, hl⟩ := (show B ≤ w.heap.size ∧ l.length ≤ 1000000000 from HB)
    have hlen : (l ++ eig n k).length = l.length + k := by rw [List.length_append, eig_len]
    obtain ⟨L, hL⟩ : ∃ L, L = (l ++ eig n k).length := ⟨_, rfl⟩
    obtain ⟨LV, hLV⟩ : ∃ LV, LV = bvs (l ++ eig n k) := ⟨_, rfl⟩
    have hL1 : L ≤ 1000000008 := by omega
    rw [← hL, ← hLV] at ho
    rw [← hL]
    have howna : ∀ ob : Obj, (wr.alloc ob).ownsRow B 5 1 (.slice ad L cap) L LV := fun ob => ho.alloc ob
    have hqc : ∀ (j : Nat) (u : Value), ([.int .u8 ((X % 256 : Nat) : Int)] : List Value)[j]? = some u → (wr.alloc (.cells #[.int .u8 ((X % 256 : Nat) : Int)] 5)).cell? ((⟨wr.heap.size, 0, none⟩ : Addr).add j) = some u := qr_cells wr #[.int .u8 ((X % 256 : Nat) : Int)] 5 [.int .u8 ((X % 256 : Nat) : Int)] rfl
    have h1c : ∀ u ∈ ([.int .u8 ((X % 256 : Nat) : Int)] : List Value), u.oneCell' = true := by intro u hu; simp at hu; subst hu; rfl
    have hbs : B ≤ wr.heap.size := Nat.le_trans hB hx.size
    have HSTP : Hid (∀ (ob : Obj) (v' : Value) (w5 : World), w5.ownsRow B 5 1 v' (L + 1) (LV ++ [.int .u8 ((X % 256 : Nat) : Int)]) → (wr.alloc ob).grownBy w5 (Value.slice ad L cap).ownBlock → w5.ownsRow B 5 1 v' (l ++ eig n (k + 1)).length (bvs (l ++ eig n (k + 1))) ∧ Kx B w w5) := (fun ob v' w5 h5 g5 => by
      refine ⟨?_, hx.trans ((Kx.of_kb (kb_alloc 0 wr ob)).trans (Kx.grown (howna ob) g5))⟩
      have e1 : (l ++ eig n (k + 1)).length = L + 1 := by rw [hL, List.length_append, List.length_append, eig_len, eig_len]; omega
      have e2 : bvs (l ++ eig n (k + 1)) = LV ++ [.int .u8 ((X % 256 : Nat) : Int)] := by
        rw [hLV, hX]
        show bvs (l ++ (eig n k ++ [((n / 256 ^ k % 256 : Nat) : Int)])) = _
        unfold bvs
        rw [← List.append_assoc, List.map_append]
        rfl
      rw [e1, e2]
      exact h5 : ∀ (ob : Obj) (v' : Value) (w5 : World), _)
    have HXN : Hid (n / 256 ^ (k + 1) = X / 256) := (by rw [hX, Nat.pow_succ, Nat.div_div_eq_div_mul] : n / 256 ^ (k + 1) = X / 256)
    clear HX hx ho hB hl hlen hL hLV hX HB
    have hw8 : IntKind.u8.wrap (X : Int) = ((X % 256 : Nat) : Int) := by simp [IntKind.wrap, IntKind.signed, IntKind.bits]
    go_upto_region 5 with (at_builtin; refine wpList_append_own _ rfl (.tmp 10) (.tmp 13) 22 rfl B 5 i0 (.int .u8 0) 1 1 Try.underlying22 HI0 hz0 hz1 hz2 rfl (by decide) _ _ _ rfl (howna _) ⟨wr.heap.size, 0, none⟩ 1 1 [.int .u8 ((X % 256 : Nat) : Int)] rfl rfl hqc h1c (by unfold maxLen; omega) (by omega) (by simp; omega) ?_; intro v' w5 hown1 hgrow1 _; obtain ⟨p1, p2⟩ := (show ∀ (ob : Obj) (v' : Value) (w5 : World), _ from HSTP) _ _ _ hown1 hgrow1; have HP : Hid (w5.ownsRow B 5 1 v' (l ++ eig n (k + 1)).length (bvs (l ++ eig n (k + 1))) ∧ Kx B w w5) := (⟨p1, p2⟩ : _ ∧ _); clear HSTP hown1 hgrow1 howna hqc h1c p1 p2)
    go_wp2_with fail
    go_roundw
    case rel => exact ⟨k + 1, by go_num, by omega, by rw [show n / 256 ^ (k + 1) = X / 256 from HXN]; exact congrArg (Value.int .u64) (by omega), HP⟩
    case measure => simp [intOf]; omega
end Go.Proofs.Ytamcnmnaadpfoaa.Fo

namespace Go.Proofs.Ytamcnmnaadpfoaa.Fo
open Go.ChangeShapes Go.WideShapes Go.ChangeAt Go.RowKit
set_option linter.unusedVariables false
set_option maxRecDepth 100000
/-- a number in groups of seven bits, the low ones first -/
def numb (n : Nat) : List Int := if h : n ≤ 127 then [(n : Int)] else ((n % 128 + 128 : Nat) : Int) :: numb (n / 128)
termination_by n
decreasing_by omega
theorem numb_lt {n : Nat} (h : n ≤ 127) : numb n = [(n : Int)] := by rw [numb, dif_pos h]
theorem numb_ge {n : Nat} (h : ¬ n ≤ 127) : numb n = ((n % 128 + 128 : Nat) : Int) :: numb (n / 128) := by rw [numb, dif_neg h]
theorem numb_len : ∀ (k n : Nat), n < 128 ^ (k + 1) → (numb n).length ≤ k + 1
  | 0, n, h => by rw [numb_lt (by omega)]; exact Nat.le_refl _
  | k + 1, n, h => by
    by_cases q : n ≤ 127
    · rw [numb_lt q]; show 1 ≤ _; omega
    · rw [numb_ge q]
      have h2 : n / 128 < 128 ^ (k + 1) := by
        rw [Nat.div_lt_iff_lt_mul (by omega)]
        rw [Nat.pow_succ] at h
        exact h
      have := numb_len k (n / 128) h2
      show (numb (n / 128)).length + 1 ≤ _
      omega
theorem numb_ten {n : Nat} (h : n < 18446744073709551616) : (numb n).length ≤ 10 := numb_len 9 n (Nat.lt_of_lt_of_le h (by decide))
/-- a number with a sign as one without -/
def sgn (n : Int) : Nat := if n < 0 then (-(n + 1)).toNat * 2 + 1 else n.toNat * 2
end Go.Proofs.Ytamcnmnaadpfoaa.Fo

namespace Go.Proofs.Ytamcnmnaadpfoaa.Fo
open Go.ChangeShapes Go.WideShapes Go.ChangeAt Go.RowKit
set_option linter.unusedVariables false
set_option maxRecDepth 100000
theorem or128 : ∀ b : Fin 128, (b.val ||| 128) = b.val + 128 := by decide
/-- a group that is not the last -/
theorem grp (X : Nat) (h : X < 18446744073709551616) : bits BinOp.or IntKind.u64 (bits BinOp.and IntKind.u64 (X : Int) 127) 128 = ((X % 128 + 128 : Nat) : Int) := by
  have e1 : bits BinOp.and IntKind.u64 (X : Int) 127 = ((X % 128 : Nat) : Int) := by
    have := bits_and_u64_nat X 127 h (by decide)
    rw [show X &&& 127 = X % 128 from Nat.and_two_pow_sub_one_eq_mod X 7] at this
    exact this
  rw [e1]
  have e2 := bits_or_u64_nat (X % 128) 128 (by omega) (by decide)
  rw [or128 ⟨X % 128, Nat.mod_lt _ (by decide)⟩] at e2
  exact e2
set_option maxHeartbeats 8000000 in
theorem sp_num {B : Nat} {v : Value} {l : List Int} (n : Nat) (w : World) (h : w.ownsRow B 5 1 v l.length (bvs l)) (hB : B ≤ w.heap.size) (hl : l.length ≤ 1000000000) (hn : n < 18446744073709551616) :
    Calls Try.prog 73 #[v, .int .u64 (n : Int)] w fun e w' => ∃ v', e = .returned v' ∧ w'.ownsRow B 5 1 v' (l ++ numb n).length (bvs (l ++ numb n)) ∧ Kx B w w' := by
  obtain ⟨E, hE⟩ : ∃ E, E = l ++ numb n := ⟨_, rfl⟩
  rw [← hE]
  obtain ⟨i0, hi0, hz0, hz1, hz2⟩ := info_parts infoB
  have HI0 : Hid (Try.prog.info? 5 = some i0) := hi0
  have HS : Hid (w.ownsRow B 5 1 v l.length (bvs l) ∧ Kx B w w ∧ l ++ numb n = E) := (⟨h, Kx.refl _ _, hE.symm⟩ : _ ∧ _)
  obtain ⟨ad, cap, rfl⟩ := own_shape h
  have HB : Hid (B ≤ w.heap.size ∧ l.length ≤ 1000000000 ∧ E.length ≤ l.length + 10) := (⟨hB, hl, by have := numb_ten hn; rw [hE, List.length_append]; omega⟩ : _ ∧ _)
  clear h hB hl hi0 hE
  go_enter Try.func73, Try.ntmps73
  go_wp2_with fail
  go_loopw [0, 1] (fun s0 s1 wr => ∃ (X : Nat) (k : List Int), s1 = .int .u64 (X : Int) ∧ X < 18446744073709551616 ∧ Hid (wr.ownsRow B 5 1 s0 k.length (bvs k) ∧ Kx B w wr ∧ k ++ numb X = E)) (fun _ s1 _ => (intOf s1).toNat)
  case atStart => exact ⟨n, l, rfl, hn, HS⟩
  case round =>
    clear HS
    obtain ⟨X, k, rfl, hX1, HX⟩ := hrel
    obtain ⟨ho, hx, he⟩ := (show wr.ownsRow B 5 1 _ k.length (bvs k) ∧ Kx B w wr ∧ k ++ numb X = E from HX)
    obtain ⟨ad, cap, rfl⟩ := own_shape ho
    obtain ⟨hB, hl, h10⟩ := (show B ≤ w.heap.size ∧ l.length ≤ 1000000000 ∧ E.length ≤ l.length + 10 from HB)
    have hlen : k.length + (numb X).length = E.length := by rw [← List.length_append, he]
    obtain ⟨L, hL⟩ : ∃ L, L = k.length := ⟨_, rfl⟩
    obtain ⟨LV, hLV⟩ : ∃ LV, LV = bvs k := ⟨_, rfl⟩
    have hL1 : L ≤ 1000000010 := by omega
    rw [← hL, ← hLV] at ho
    rw [← hL]
    have howna : ∀ ob : Obj, (wr.alloc ob).ownsRow B 5 1 (.slice ad L cap) L LV := fun ob => ho.alloc ob
    have hbs : B ≤ wr.heap.size := Nat.le_trans hB hx.size
    have HST : Hid (∀ (y : Int) (ob : Obj) (v' : Value) (w5 : World), w5.ownsRow B 5 1 v' (L + 1) (LV ++ [.int .u8 y]) → (wr.alloc ob).grownBy w5 (Value.slice ad L cap).ownBlock → w5.ownsRow B 5 1 v' (k ++ [y]).length (bvs (k ++ [y])) ∧ Kx B w w5) := (fun y ob v' w5 h5 g5 => by
      refine ⟨?_, hx.trans ((Kx.of_kb (kb_alloc 0 wr ob)).trans (Kx.grown (howna ob) g5))⟩
      have e1 : (k ++ [y]).length = L + 1 := by rw [hL, List.length_append]; rfl
      have e2 : bvs (k ++ [y]) = LV ++ [.int .u8 y] := by rw [hLV]; unfold bvs; rw [List.map_append]; rfl
      rw [e1, e2]
      exact h5 : ∀ (y : Int) (ob : Obj) (v' : Value) (w5 : World), _)
    by_cases hs : X ≤ 127
    · have hsI : ¬ (127 : Int) < (X : Int) := by omega
      have HE : Hid (k ++ [(X : Int)] = E) := by
        rw [numb_lt hs] at he
        exact he
      have hqc : ∀ (j : Nat) (u : Value), ([.int .u8 (X : Int)] : List Value)[j]? = some u → (wr.alloc (.cells #[.int .u8 (X : Int)] 5)).cell? ((⟨wr.heap.size, 0, none⟩ : Addr).add j) = some u := qr_cells wr #[.int .u8 (X : Int)] 5 [.int .u8 (X : Int)] rfl
      have h1c : ∀ u ∈ ([.int .u8 (X : Int)] : List Value), u.oneCell' = true := by intro u hu; simp at hu; subst hu; rfl
      have hXm : (X : Int) % 256 = (X : Int) := by omega
      clear HX hx ho hB hl hlen hL hLV HB he h10
      go_wp2_with (at_builtin; refine wpList_append_own _ rfl (.tmp 16) (.tmp 19) 22 rfl B 5 i0 (.int .u8 0) 1 1 Try.underlying22 HI0 hz0 hz1 hz2 rfl (by decide) _ _ _ rfl (howna _) ⟨wr.heap.size, 0, none⟩ 1 1 [.int .u8 (X : Int)] rfl rfl hqc h1c (by unfold maxLen; omega) (by omega) (by simp; omega) ?_; intro v' w5 hown1 hgrow1 _; obtain ⟨p1, p2⟩ := (show ∀ (y : Int) (ob : Obj) (v' : Value) (w5 : World), _ from HST) _ _ _ _ hown1 hgrow1; have HP : Hid (w5.ownsRow B 5 1 v' (k ++ [(X : Int)]).length (bvs (k ++ [(X : Int)])) ∧ Kx B w w5) := (⟨p1, p2⟩ : _ ∧ _); clear HST hown1 hgrow1 howna hqc h1c p1 p2)
      go_ret
      rw [← (show k ++ [(X : Int)] = _ from HE)]
      exact ⟨_, rfl, HP⟩
    have hsI : (127 : Int) < (X : Int) := by omega
    have HE : Hid (k ++ [((X % 128 + 128 : Nat) : Int)] ++ numb (X / 128) = E) := by
      rw [numb_ge hs] at he
      show k ++ [((X % 128 + 128 : Nat) : Int)] ++ numb (X / 128) = E
      rw [← he, List.append_assoc]
      rfl
    obtain ⟨Y, hY⟩ : ∃ Y : Int, Y = ((X % 128 + 128 : Nat) : Int) := ⟨_, rfl⟩
    have hbit : bits BinOp.or IntKind.u64 (bits BinOp.and IntKind.u64 (X : Int) 127) 128 % 256 = Y := by rw [grp X hX1, hY]; omega
    rw [← hY] at HE
    have hqc : ∀ (j : Nat) (u : Value), ([.int .u8 Y] : List Value)[j]? = some u → (wr.alloc (.cells #[.int .u8 Y] 5)).cell? ((⟨wr.heap.size, 0, none⟩ : Addr).add j) = some u := qr_cells wr #[.int .u8 Y] 5 [.int .u8 Y] rfl
    have h1c : ∀ u ∈ ([.int .u8 Y] : List Value), u.oneCell' = true := by intro u hu; simp at hu; subst hu; rfl
    clear HX hx ho hB hl hlen hL hLV HB he h10 hY
    go_upto_region 3 with (at_builtin; refine wpList_append_own _ rfl (.tmp 7) (.tmp 12) 22 rfl B 5 i0 (.int .u8 0) 1 1 Try.underlying22 HI0 hz0 hz1 hz2 rfl (by decide) _ _ _ rfl (howna _) ⟨wr.heap.size, 0, none⟩ 1 1 [.int .u8 Y] rfl rfl hqc h1c (by unfold maxLen; omega) (by omega) (by simp; omega) ?_; intro v' w5 hown1 hgrow1 _; obtain ⟨p1, p2⟩ := (show ∀ (y : Int) (ob : Obj) (v' : Value) (w5 : World), _ from HST) _ _ _ _ hown1 hgrow1; have HP : Hid (w5.ownsRow B 5 1 v' (k ++ [Y]).length (bvs (k ++ [Y])) ∧ Kx B w w5) := (⟨p1, p2⟩ : _ ∧ _); clear HST hown1 hgrow1 howna hqc h1c p1 p2)
    clear hbit
    go_wp2_with fail
    go_roundw
    case rel => exact ⟨X / 128, k ++ [Y], congrArg (Value.int .u64) (by omega), by omega, ⟨(show _ ∧ _ from HP).1, (show _ ∧ _ from HP).2, HE⟩⟩
    case measure => simp [intOf]; omega
end Go.Proofs.Ytamcnmnaadpfoaa.Fo

namespace Go.Proofs.Ytamcnmnaadpfoaa.Fo
open Go.ChangeShapes Go.WideShapes Go.ChangeAt Go.RowKit
set_option linter.unusedVariables false
set_option maxRecDepth 100000
theorem sp_signed (n : Int) (h1 : -9223372036854775808 ≤ n) (h2 : n ≤ 9223372036854775807) (w : World) : Calls Try.prog 99 #[.int .i64 n] w fun e w' => e = .returned (.int .u64 (sgn n : Int)) ∧ w' = w := by
  by_cases h : n < 0
  · have e : (sgn n : Int) = -(n + 1) * 2 + 1 := by unfold sgn; rw [if_pos h]; omega
    rw [e]
    go_enter Try.func99, Try.ntmps99
    go_wp2_with fail
    go_ret
    exact ⟨by congr 2; try omega, rfl⟩
  · have e : (sgn n : Int) = n * 2 := by unfold sgn; rw [if_neg h]; omega
    rw [e]
    have h0 : 0 ≤ n := by omega
    go_enter Try.func99, Try.ntmps99
    go_wp2_with fail
    go_ret
    exact ⟨by congr 2; try omega, rfl⟩
theorem sgn_lt {n : Int} (h1 : -9223372036854775808 ≤ n) (h2 : n ≤ 9223372036854775807) : sgn n < 18446744073709551616 := by
  unfold sgn
  split <;> omega
end Go.Proofs.Ytamcnmnaadpfoaa.Fo

namespace Go.Proofs.Ytamcnmnaadpfoaa.Fo
open Go.ChangeShapes Go.WideShapes Go.ChangeAt Go.RowKit
set_option linter.unusedVariables false
set_option maxRecDepth 100000
set_option maxHeartbeats 8000000 in
theorem sp_pval_0 {B : Nat} {vo : Value} {l : List Int} {m r : Int} {x : ByteArray} (w : World) (h : w.ownsRow B 5 1 vo l.length (bvs l)) (hB : B ≤ w.heap.size) (hl : l.length ≤ 900000000)  :
    Calls Try.prog 74 #[vo, .agg #[.int .i64 0, .int .i64 m, .string x, .int .i64 r]] w fun e w' => ∃ v', e = .returned v' ∧ w'.ownsRow B 5 1 v' (l ++ [0]).length (bvs (l ++ [0])) ∧ Kx B w w' := by
  obtain ⟨i0, hi0, hz0, hz1, hz2⟩ := info_parts infoB
  have HI0 : Hid (Try.prog.info? 5 = some i0) := hi0
  obtain ⟨ad, cap, rfl⟩ := own_shape h
  obtain ⟨w1, hw1⟩ : ∃ w1, w1 = w.alloc (.cells #[.int .i64 0, .int .i64 m, .string x, .int .i64 r] 41) := ⟨_, rfl⟩
  have k1 : Kb 0 w w1 := by rw [hw1]; exact kb_alloc _ _ _
  have b1 : w1.heap[w.heap.size]? = some (.cells #[.int .i64 0, .int .i64 m, .string x, .int .i64 r] 41 (0, 0)) := by rw [hw1]; exact alloc_new _ _ _
  have h1 : w1.ownsRow B 5 1 (.slice ad l.length cap) l.length (bvs l) := own_keep h (fun g e => k1.block g (Nat.zero_le _) (h.lt g e).2)
  have u0 : w1.cell? ⟨w.heap.size, 0, none⟩ = some (.int .i64 0) := cell_of b1 rfl
  obtain ⟨L, hL⟩ : ∃ L, L = l.length := ⟨_, rfl⟩
  obtain ⟨LV, hLV⟩ : ∃ LV, LV = bvs l := ⟨_, rfl⟩
  have hL1 : L ≤ 900000000 := by omega
  rw [← hL, ← hLV] at h1
  have howna : ∀ ob : Obj, (w1.alloc ob).ownsRow B 5 1 (.slice ad L cap) L LV := fun ob => h1.alloc ob
  have hqc : ∀ (j : Nat) (u : Value), ([.int .u8 0] : List Value)[j]? = some u → (w1.alloc (.cells #[.int .u8 0] 5)).cell? ((⟨w1.heap.size, 0, none⟩ : Addr).add j) = some u := qr_cells w1 #[.int .u8 0] 5 [.int .u8 0] rfl
  have h1c : ∀ u ∈ ([.int .u8 0] : List Value), u.oneCell' = true := by intro u hu; simp at hu; subst hu; rfl
  have hbs : B ≤ w1.heap.size := Nat.le_trans hB k1.size
  have HST : Hid (∀ (ob : Obj) (v' : Value) (w5 : World), w5.ownsRow B 5 1 v' (L + 1) (LV ++ [.int .u8 0]) → (w1.alloc ob).grownBy w5 (Value.slice ad L cap).ownBlock → w5.ownsRow B 5 1 v' (l ++ [0]).length (bvs (l ++ [0])) ∧ Kx B w w5 ∧ w5.heap[w.heap.size]? = some (.cells #[.int .i64 0, .int .i64 m, .string x, .int .i64 r] 41 (0, 0)) ∧ B ≤ w5.heap.size) := (fun ob v' w5 h5 g5 => by
    have kx : Kx B w1 w5 := (Kx.of_kb (kb_alloc 0 w1 ob)).trans (Kx.grown (howna ob) g5)
    refine ⟨?_, (Kx.of_kb k1).trans kx, (kx.nt _ _ _ b1 (by decide)).trans b1, Nat.le_trans hbs kx.size⟩
    have e1 : (l ++ [(0 : Int)]).length = L + 1 := by rw [hL, List.length_append]; rfl
    have e2 : bvs (l ++ [(0 : Int)]) = LV ++ [.int .u8 0] := by rw [hLV]; unfold bvs; rw [List.map_append]; rfl
    rw [e1, e2]
    exact h5 : ∀ (ob : Obj) (v' : Value) (w5 : World), _)
  have HW1 : Hid (w1 = _) := hw1
  have HLL : Hid (l.length ≤ 900000000) := hl
  rw [← hL]
  clear h hB hl k1 b1 h1 hw1 hi0 hL hLV
  go_enter Try.func74, Try.ntmps74
  go_upto_region 1 with fail
  rw [← (show w1 = _ from HW1)]
  clear HW1
  go_upto_region 2 with (at_builtin; refine wpList_append_own _ rfl (.tmp 5) (.tmp 9) 22 rfl B 5 i0 (.int .u8 0) 1 1 Try.underlying22 HI0 hz0 hz1 hz2 rfl (by decide) _ _ _ rfl (howna _) ⟨w1.heap.size, 0, none⟩ 1 1 [.int .u8 0] rfl rfl hqc h1c (by unfold maxLen; omega) (by omega) (by simp; omega) ?_; intro v' w5 hown1 hgrow1 _; obtain ⟨p1, p2, p3, p4⟩ := (show ∀ (ob : Obj) (v' : Value) (w5 : World), _ from HST) _ _ _ hown1 hgrow1; clear HST hown1 hgrow1 howna hqc h1c)
  clear u0 hbs
  have u0 : w5.cell? ⟨w.heap.size, 0, none⟩ = some (.int .i64 0) := cell_of p3 rfl
  have HE : Hid (w5.ownsRow B 5 1 v' (l ++ [0]).length (bvs (l ++ [0])) ∧ Kx B w w5) := (⟨p1, p2⟩ : _ ∧ _)
  clear p1 p2 p3 p4 HLL
  go_wp2_with fail
  go_ret
  exact ⟨_, rfl, HE⟩
set_option maxHeartbeats 8000000 in
theorem sp_pval_4 {B : Nat} {vo : Value} {l : List Int} {m r : Int} {x : ByteArray} (w : World) (h : w.ownsRow B 5 1 vo l.length (bvs l)) (hB : B ≤ w.heap.size) (hl : l.length ≤ 900000000) (hr0 : 0 ≤ r) (hr1 : r ≤ 1000000000) :
    Calls Try.prog 74 #[vo, .agg #[.int .i64 4, .int .i64 m, .string x, .int .i64 r]] w fun e w' => ∃ v', e = .returned v' ∧ w'.ownsRow B 5 1 v' (l ++ ([4] ++ numb r.toNat)).length (bvs (l ++ ([4] ++ numb r.toNat))) ∧ Kx B w w' := by
  obtain ⟨i0, hi0, hz0, hz1, hz2⟩ := info_parts infoB
  have HI0 : Hid (Try.prog.info? 5 = some i0) := hi0
  obtain ⟨ad, cap, rfl⟩ := own_shape h
  obtain ⟨w1, hw1⟩ : ∃ w1, w1 = w.alloc (.cells #[.int .i64 4, .int .i64 m, .string x, .int .i64 r] 41) := ⟨_, rfl⟩
  have k1 : Kb 0 w w1 := by rw [hw1]; exact kb_alloc _ _ _
  have b1 : w1.heap[w.heap.size]? = some (.cells #[.int .i64 4, .int .i64 m, .string x, .int .i64 r] 41 (0, 0)) := by rw [hw1]; exact alloc_new _ _ _
  have h1 : w1.ownsRow B 5 1 (.slice ad l.length cap) l.length (bvs l) := own_keep h (fun g e => k1.block g (Nat.zero_le _) (h.lt g e).2)
  have u0 : w1.cell? ⟨w.heap.size, 0, none⟩ = some (.int .i64 4) := cell_of b1 rfl
  obtain ⟨L, hL⟩ : ∃ L, L = l.length := ⟨_, rfl⟩
  obtain ⟨LV, hLV⟩ : ∃ LV, LV = bvs l := ⟨_, rfl⟩
  have hL1 : L ≤ 900000000 := by omega
  rw [← hL, ← hLV] at h1
  have howna : ∀ ob : Obj, (w1.alloc ob).ownsRow B 5 1 (.slice ad L cap) L LV := fun ob => h1.alloc ob
  have hqc : ∀ (j : Nat) (u : Value), ([.int .u8 4] : List Value)[j]? = some u → (w1.alloc (.cells #[.int .u8 4] 5)).cell? ((⟨w1.heap.size, 0, none⟩ : Addr).add j) = some u := qr_cells w1 #[.int .u8 4] 5 [.int .u8 4] rfl
  have h1c : ∀ u ∈ ([.int .u8 4] : List Value), u.oneCell' = true := by intro u hu; simp at hu; subst hu; rfl
  have hbs : B ≤ w1.heap.size := Nat.le_trans hB k1.size
  have HST : Hid (∀ (ob : Obj) (v' : Value) (w5 : World), w5.ownsRow B 5 1 v' (L + 1) (LV ++ [.int .u8 4]) → (w1.alloc ob).grownBy w5 (Value.slice ad L cap).ownBlock → w5.ownsRow B 5 1 v' (l ++ [4]).length (bvs (l ++ [4])) ∧ Kx B w w5 ∧ w5.heap[w.heap.size]? = some (.cells #[.int .i64 4, .int .i64 m, .string x, .int .i64 r] 41 (0, 0)) ∧ B ≤ w5.heap.size) := (fun ob v' w5 h5 g5 => by
    have kx : Kx B w1 w5 := (Kx.of_kb (kb_alloc 0 w1 ob)).trans (Kx.grown (howna ob) g5)
    refine ⟨?_, (Kx.of_kb k1).trans kx, (kx.nt _ _ _ b1 (by decide)).trans b1, Nat.le_trans hbs kx.size⟩
    have e1 : (l ++ [(4 : Int)]).length = L + 1 := by rw [hL, List.length_append]; rfl
    have e2 : bvs (l ++ [(4 : Int)]) = LV ++ [.int .u8 4] := by rw [hLV]; unfold bvs; rw [List.map_append]; rfl
    rw [e1, e2]
    exact h5 : ∀ (ob : Obj) (v' : Value) (w5 : World), _)
  have HW1 : Hid (w1 = _) := hw1
  have HLL : Hid (l.length ≤ 900000000) := hl
  rw [← hL]
  clear h hB hl k1 b1 h1 hw1 hi0 hL hLV
  go_enter Try.func74, Try.ntmps74
  go_upto_region 1 with fail
  rw [← (show w1 = _ from HW1)]
  clear HW1
  go_upto_region 2 with (at_builtin; refine wpList_append_own _ rfl (.tmp 5) (.tmp 9) 22 rfl B 5 i0 (.int .u8 0) 1 1 Try.underlying22 HI0 hz0 hz1 hz2 rfl (by decide) _ _ _ rfl (howna _) ⟨w1.heap.size, 0, none⟩ 1 1 [.int .u8 4] rfl rfl hqc h1c (by unfold maxLen; omega) (by omega) (by simp; omega) ?_; intro v' w5 hown1 hgrow1 _; obtain ⟨p1, p2, p3, p4⟩ := (show ∀ (ob : Obj) (v' : Value) (w5 : World), _ from HST) _ _ _ hown1 hgrow1; clear HST hown1 hgrow1 howna hqc h1c)
  clear u0 hbs
  have u0 : w5.cell? ⟨w.heap.size, 0, none⟩ = some (.int .i64 4) := cell_of p3 rfl
  have u3 : w5.cell? ⟨w.heap.size, 3, none⟩ = some (.int .i64 r) := cell_of p3 rfl
  have HN := sp_num r.toNat w5 p1 p4 (by rw [List.length_append]; have := (show l.length ≤ 900000000 from HLL); show l.length + 1 ≤ _; omega) (by omega)
  rw [List.append_assoc, Int.toNat_of_nonneg hr0] at HN
  have HP2 : Hid (Kx B w w5) := p2
  clear p1 p2 p3 p4 HLL
  go_wp2_with fail
  refine HN.mono ?_
  rintro e w6 ⟨v6, rfl, r6, k6⟩
  have HE : Hid (w6.ownsRow B 5 1 v6 (l ++ ([4] ++ numb r.toNat)).length (bvs (l ++ ([4] ++ numb r.toNat))) ∧ Kx B w w6) := (⟨r6, (show Kx B w w5 from HP2).trans k6⟩ : _ ∧ _)
  clear HN r6 k6 u0 HP2
  go_wp2_with fail
  go_ret
  exact ⟨_, rfl, HE⟩
set_option maxHeartbeats 8000000 in
theorem sp_pval_1 {B : Nat} {vo : Value} {l : List Int} {m r : Int} {x : ByteArray} (w : World) (h : w.ownsRow B 5 1 vo l.length (bvs l)) (hB : B ≤ w.heap.size) (hl : l.length ≤ 900000000) (hm0 : -9223372036854775808 ≤ m) (hm1 : m ≤ 9223372036854775807) :
    Calls Try.prog 74 #[vo, .agg #[.int .i64 1, .int .i64 m, .string x, .int .i64 r]] w fun e w' => ∃ v', e = .returned v' ∧ w'.ownsRow B 5 1 v' (l ++ ([1] ++ numb (sgn m))).length (bvs (l ++ ([1] ++ numb (sgn m)))) ∧ Kx B w w' := by
  obtain ⟨i0, hi0, hz0, hz1, hz2⟩ := info_parts infoB
  have HI0 : Hid (Try.prog.info? 5 = some i0) := hi0
  obtain ⟨ad, cap, rfl⟩ := own_shape h
  obtain ⟨w1, hw1⟩ : ∃ w1, w1 = w.alloc (.cells #[.int .i64 1, .int .i64 m, .string x, .int .i64 r] 41) := ⟨_, rfl⟩
  have k1 : Kb 0 w w1 := by rw [hw1]; exact kb_alloc _ _ _
  have b1 : w1.heap[w.heap.size]? = some (.cells #[.int .i64 1, .int .i64 m, .string x, .int .i64 r] 41 (0, 0)) := by rw [hw1]; exact alloc_new _ _ _
  have h1 : w1.ownsRow B 5 1 (.slice ad l.length cap) l.length (bvs l) := own_keep h (fun g e => k1.block g (Nat.zero_le _) (h.lt g e).2)
  have u0 : w1.cell? ⟨w.heap.size, 0, none⟩ = some (.int .i64 1) := cell_of b1 rfl
  obtain ⟨L, hL⟩ : ∃ L, L = l.length := ⟨_, rfl⟩
  obtain ⟨LV, hLV⟩ : ∃ LV, LV = bvs l := ⟨_, rfl⟩
  have hL1 : L ≤ 900000000 := by omega
  rw [← hL, ← hLV] at h1
  have howna : ∀ ob : Obj, (w1.alloc ob).ownsRow B 5 1 (.slice ad L cap) L LV := fun ob => h1.alloc ob
  have hqc : ∀ (j : Nat) (u : Value), ([.int .u8 1] : List Value)[j]? = some u → (w1.alloc (.cells #[.int .u8 1] 5)).cell? ((⟨w1.heap.size, 0, none⟩ : Addr).add j) = some u := qr_cells w1 #[.int .u8 1] 5 [.int .u8 1] rfl
  have h1c : ∀ u ∈ ([.int .u8 1] : List Value), u.oneCell' = true := by intro u hu; simp at hu; subst hu; rfl
  have hbs : B ≤ w1.heap.size := Nat.le_trans hB k1.size
  have HST : Hid (∀ (ob : Obj) (v' : Value) (w5 : World), w5.ownsRow B 5 1 v' (L + 1) (LV ++ [.int .u8 1]) → (w1.alloc ob).grownBy w5 (Value.slice ad L cap).ownBlock → w5.ownsRow B 5 1 v' (l ++ [1]).length (bvs (l ++ [1])) ∧ Kx B w w5 ∧ w5.heap[w.heap.size]? = some (.cells #[.int .i64 1, .int .i64 m, .string x, .int .i64 r] 41 (0, 0)) ∧ B ≤ w5.heap.size) := (fun ob v' w5 h5 g5 => by
    have kx : Kx B w1 w5 := (Kx.of_kb (kb_alloc 0 w1 ob)).trans (Kx.grown (howna ob) g5)
    refine ⟨?_, (Kx.of_kb k1).trans kx, (kx.nt _ _ _ b1 (by decide)).trans b1, Nat.le_trans hbs kx.size⟩
    have e1 : (l ++ [(1 : Int)]).length = L + 1 := by rw [hL, List.length_append]; rfl
    have e2 : bvs (l ++ [(1 : Int)]) = LV ++ [.int .u8 1] := by rw [hLV]; unfold bvs; rw [List.map_append]; rfl
    rw [e1, e2]
    exact h5 : ∀ (ob : Obj) (v' : Value) (w5 : World), _)
  have HW1 : Hid (w1 = _) := hw1
  have HLL : Hid (l.length ≤ 900000000) := hl
  rw [← hL]
  clear h hB hl k1 b1 h1 hw1 hi0 hL hLV
  go_enter Try.func74, Try.ntmps74
  go_upto_region 1 with fail
  rw [← (show w1 = _ from HW1)]
  clear HW1
  go_upto_region 2 with (at_builtin; refine wpList_append_own _ rfl (.tmp 5) (.tmp 9) 22 rfl B 5 i0 (.int .u8 0) 1 1 Try.underlying22 HI0 hz0 hz1 hz2 rfl (by decide) _ _ _ rfl (howna _) ⟨w1.heap.size, 0, none⟩ 1 1 [.int .u8 1] rfl rfl hqc h1c (by unfold maxLen; omega) (by omega) (by simp; omega) ?_; intro v' w5 hown1 hgrow1 _; obtain ⟨p1, p2, p3, p4⟩ := (show ∀ (ob : Obj) (v' : Value) (w5 : World), _ from HST) _ _ _ hown1 hgrow1; clear HST hown1 hgrow1 howna hqc h1c)
  clear u0 hbs
  have u0 : w5.cell? ⟨w.heap.size, 0, none⟩ = some (.int .i64 1) := cell_of p3 rfl
  have u1 : w5.cell? ⟨w.heap.size, 1, none⟩ = some (.int .i64 m) := cell_of p3 rfl
  have HG := sp_signed m hm0 hm1 w5
  have HN := sp_num (sgn m) w5 p1 p4 (by rw [List.length_append]; have := (show l.length ≤ 900000000 from HLL); show l.length + 1 ≤ _; omega) (sgn_lt hm0 hm1)
  rw [List.append_assoc] at HN
  have HP2 : Hid (Kx B w w5) := p2
  clear p1 p2 p3 p4 HLL
  go_wp2_with fail
  refine HG.mono ?_
  rintro e w5' ⟨rfl, rfl⟩
  clear HG
  go_wp2_with fail
  refine HN.mono ?_
  rintro e w6 ⟨v6, rfl, r6, k6⟩
  have HE : Hid (w6.ownsRow B 5 1 v6 (l ++ ([1] ++ numb (sgn m))).length (bvs (l ++ ([1] ++ numb (sgn m)))) ∧ Kx B w w6) := (⟨r6, (show Kx B w _ from HP2).trans k6⟩ : _ ∧ _)
  clear HN r6 k6 u0 u1 HP2
  go_wp2_with fail
  go_ret
  exact ⟨_, rfl, HE⟩
end Go.Proofs.Ytamcnmnaadpfoaa.Fo

namespace Go.Proofs.Ytamcnmnaadpfoaa.Fo
open Go.ChangeShapes Go.WideShapes Go.ChangeAt Go.RowKit
set_option linter.unusedVariables false
set_option maxRecDepth 100000
set_option maxHeartbeats 8000000 in
theorem sp_pval_2 {B : Nat} {vo : Value} {l : List Int} {m r : Int} {x : ByteArray} (w : World) (h : w.ownsRow B 5 1 vo l.length (bvs l)) (hB : B ≤ w.heap.size) (hl : l.length ≤ 900000000) (hm0 : -9223372036854775808 ≤ m) (hm1 : m ≤ 9223372036854775807) :
    Calls Try.prog 74 #[vo, .agg #[.int .i64 2, .int .i64 m, .string x, .int .i64 r]] w fun e w' => ∃ v', e = .returned v' ∧ w'.ownsRow B 5 1 v' (l ++ ([2] ++ eig (m % 18446744073709551616).toNat 8)).length (bvs (l ++ ([2] ++ eig (m % 18446744073709551616).toNat 8))) ∧ Kx B w w' := by
  obtain ⟨i0, hi0, hz0, hz1, hz2⟩ := info_parts infoB
  have HI0 : Hid (Try.prog.info? 5 = some i0) := hi0
  obtain ⟨ad, cap, rfl⟩ := own_shape h
  obtain ⟨w1, hw1⟩ : ∃ w1, w1 = w.alloc (.cells #[.int .i64 2, .int .i64 m, .string x, .int .i64 r] 41) := ⟨_, rfl⟩
  have k1 : Kb 0 w w1 := by rw [hw1]; exact kb_alloc _ _ _
  have b1 : w1.heap[w.heap.size]? = some (.cells #[.int .i64 2, .int .i64 m, .string x, .int .i64 r] 41 (0, 0)) := by rw [hw1]; exact alloc_new _ _ _
  have h1 : w1.ownsRow B 5 1 (.slice ad l.length cap) l.length (bvs l) := own_keep h (fun g e => k1.block g (Nat.zero_le _) (h.lt g e).2)
  have u0 : w1.cell? ⟨w.heap.size, 0, none⟩ = some (.int .i64 2) := cell_of b1 rfl
  obtain ⟨L, hL⟩ : ∃ L, L = l.length := ⟨_, rfl⟩
  obtain ⟨LV, hLV⟩ : ∃ LV, LV = bvs l := ⟨_, rfl⟩
  have hL1 : L ≤ 900000000 := by omega
  rw [← hL, ← hLV] at h1
  have howna : ∀ ob : Obj, (w1.alloc ob).ownsRow B 5 1 (.slice ad L cap) L LV := fun ob => h1.alloc ob
  have hqc : ∀ (j : Nat) (u : Value), ([.int .u8 2] : List Value)[j]? = some u → (w1.alloc (.cells #[.int .u8 2] 5)).cell? ((⟨w1.heap.size, 0, none⟩ : Addr).add j) = some u := qr_cells w1 #[.int .u8 2] 5 [.int .u8 2] rfl
  have h1c : ∀ u ∈ ([.int .u8 2] : List Value), u.oneCell' = true := by intro u hu; simp at hu; subst hu; rfl
  have hbs : B ≤ w1.heap.size := Nat.le_trans hB k1.size
  have HST : Hid (∀ (ob : Obj) (v' : Value) (w5 : World), w5.ownsRow B 5 1 v' (L + 1) (LV ++ [.int .u8 2]) → (w1.alloc ob).grownBy w5 (Value.slice ad L cap).ownBlock → w5.ownsRow B 5 1 v' (l ++ [2]).length (bvs (l ++ [2])) ∧ Kx B w w5 ∧ w5.heap[w.heap.size]? = some (.cells #[.int .i64 2, .int .i64 m, .string x, .int .i64 r] 41 (0, 0)) ∧ B ≤ w5.heap.size) := (fun ob v' w5 h5 g5 => by
    have kx : Kx B w1 w5 := (Kx.of_kb (kb_alloc 0 w1 ob)).trans (Kx.grown (howna ob) g5)
    refine ⟨?_, (Kx.of_kb k1).trans kx, (kx.nt _ _ _ b1 (by decide)).trans b1, Nat.le_trans hbs kx.size⟩
    have e1 : (l ++ [(2 : Int)]).length = L + 1 := by rw [hL, List.length_append]; rfl
    have e2 : bvs (l ++ [(2 : Int)]) = LV ++ [.int .u8 2] := by rw [hLV]; unfold bvs; rw [List.map_append]; rfl
    rw [e1, e2]
    exact h5 : ∀ (ob : Obj) (v' : Value) (w5 : World), _)
  have HW1 : Hid (w1 = _) := hw1
  have HLL : Hid (l.length ≤ 900000000) := hl
  rw [← hL]
  clear h hB hl k1 b1 h1 hw1 hi0 hL hLV
  go_enter Try.func74, Try.ntmps74
  go_upto_region 1 with fail
  rw [← (show w1 = _ from HW1)]
  clear HW1
  go_upto_region 2 with (at_builtin; refine wpList_append_own _ rfl (.tmp 5) (.tmp 9) 22 rfl B 5 i0 (.int .u8 0) 1 1 Try.underlying22 HI0 hz0 hz1 hz2 rfl (by decide) _ _ _ rfl (howna _) ⟨w1.heap.size, 0, none⟩ 1 1 [.int .u8 2] rfl rfl hqc h1c (by unfold maxLen; omega) (by omega) (by simp; omega) ?_; intro v' w5 hown1 hgrow1 _; obtain ⟨p1, p2, p3, p4⟩ := (show ∀ (ob : Obj) (v' : Value) (w5 : World), _ from HST) _ _ _ hown1 hgrow1; clear HST hown1 hgrow1 howna hqc h1c)
  clear u0 hbs
  have u0 : w5.cell? ⟨w.heap.size, 0, none⟩ = some (.int .i64 2) := cell_of p3 rfl
  have u1 : w5.cell? ⟨w.heap.size, 1, none⟩ = some (.int .i64 m) := cell_of p3 rfl
  have HN := sp_eight (m % 18446744073709551616).toNat w5 p1 p4 (by rw [List.length_append]; have := (show l.length ≤ 900000000 from HLL); show l.length + 1 ≤ _; omega) (by omega)
  rw [List.append_assoc, Int.toNat_of_nonneg (by omega)] at HN
  have HP2 : Hid (Kx B w w5) := p2
  clear p1 p2 p3 p4 HLL
  go_wp2_with fail
  refine HN.mono ?_
  rintro e w6 ⟨v6, rfl, r6, k6⟩
  have HE : Hid (w6.ownsRow B 5 1 v6 (l ++ ([2] ++ eig (m % 18446744073709551616).toNat 8)).length (bvs (l ++ ([2] ++ eig (m % 18446744073709551616).toNat 8))) ∧ Kx B w w6) := (⟨r6, (show Kx B w _ from HP2).trans k6⟩ : _ ∧ _)
  clear HN r6 k6 u0 u1 HP2
  go_wp2_with fail
  go_ret
  exact ⟨_, rfl, HE⟩
end Go.Proofs.Ytamcnmnaadpfoaa.Fo

namespace Go.Proofs.Ytamcnmnaadpfoaa.Fo
open Go.ChangeShapes Go.WideShapes Go.ChangeAt Go.RowKit
set_option linter.unusedVariables false
set_option maxRecDepth 100000
def bts (x : ByteArray) : List Int := x.data.toList.map (fun b => (b.toNat : Int))
theorem bts_cells (x : ByteArray) : bvs (bts x) = Lib.strCells x := by
  unfold bvs bts Lib.strCells
  rw [List.map_map]
  rfl
theorem bts_len (x : ByteArray) : (bts x).length = x.size := by
  unfold bts
  rw [List.length_map]
  rfl
set_option maxHeartbeats 8000000 in
theorem sp_pval_3 {B : Nat} {vo : Value} {l : List Int} {m r : Int} {x : ByteArray} (w : World) (h : w.ownsRow B 5 1 vo l.length (bvs l)) (hB : B ≤ w.heap.size) (hl : l.length ≤ 900000000) (hx : x.size ≤ 50000000) :
    Calls Try.prog 74 #[vo, .agg #[.int .i64 3, .int .i64 m, .string x, .int .i64 r]] w fun e w' => ∃ v', e = .returned v' ∧ w'.ownsRow B 5 1 v' (l ++ ([3] ++ numb x.size ++ bts x)).length (bvs (l ++ ([3] ++ numb x.size ++ bts x))) ∧ Kx B w w' := by
  obtain ⟨i0, hi0, hz0, hz1, hz2⟩ := info_parts infoB
  have HI0 : Hid (Try.prog.info? 5 = some i0) := hi0
  obtain ⟨ad, cap, rfl⟩ := own_shape h
  obtain ⟨w1, hw1⟩ : ∃ w1, w1 = w.alloc (.cells #[.int .i64 3, .int .i64 m, .string x, .int .i64 r] 41) := ⟨_, rfl⟩
  have k1 : Kb 0 w w1 := by rw [hw1]; exact kb_alloc _ _ _
  have b1 : w1.heap[w.heap.size]? = some (.cells #[.int .i64 3, .int .i64 m, .string x, .int .i64 r] 41 (0, 0)) := by rw [hw1]; exact alloc_new _ _ _
  have h1 : w1.ownsRow B 5 1 (.slice ad l.length cap) l.length (bvs l) := own_keep h (fun g e => k1.block g (Nat.zero_le _) (h.lt g e).2)
  have u0 : w1.cell? ⟨w.heap.size, 0, none⟩ = some (.int .i64 3) := cell_of b1 rfl
  obtain ⟨L, hL⟩ : ∃ L, L = l.length := ⟨_, rfl⟩
  obtain ⟨LV, hLV⟩ : ∃ LV, LV = bvs l := ⟨_, rfl⟩
  have hL1 : L ≤ 900000000 := by omega
  rw [← hL, ← hLV] at h1
  have howna : ∀ ob : Obj, (w1.alloc ob).ownsRow B 5 1 (.slice ad L cap) L LV := fun ob => h1.alloc ob
  have hqc : ∀ (j : Nat) (u : Value), ([.int .u8 3] : List Value)[j]? = some u → (w1.alloc (.cells #[.int .u8 3] 5)).cell? ((⟨w1.heap.size, 0, none⟩ : Addr).add j) = some u := qr_cells w1 #[.int .u8 3] 5 [.int .u8 3] rfl
  have h1c : ∀ u ∈ ([.int .u8 3] : List Value), u.oneCell' = true := by intro u hu; simp at hu; subst hu; rfl
  have hbs : B ≤ w1.heap.size := Nat.le_trans hB k1.size
  have HST : Hid (∀ (ob : Obj) (v' : Value) (w5 : World), w5.ownsRow B 5 1 v' (L + 1) (LV ++ [.int .u8 3]) → (w1.alloc ob).grownBy w5 (Value.slice ad L cap).ownBlock → w5.ownsRow B 5 1 v' (l ++ [3]).length (bvs (l ++ [3])) ∧ Kx B w w5 ∧ w5.heap[w.heap.size]? = some (.cells #[.int .i64 3, .int .i64 m, .string x, .int .i64 r] 41 (0, 0)) ∧ B ≤ w5.heap.size) := (fun ob v' w5 h5 g5 => by
    have kx : Kx B w1 w5 := (Kx.of_kb (kb_alloc 0 w1 ob)).trans (Kx.grown (howna ob) g5)
    refine ⟨?_, (Kx.of_kb k1).trans kx, (kx.nt _ _ _ b1 (by decide)).trans b1, Nat.le_trans hbs kx.size⟩
    have e1 : (l ++ [(3 : Int)]).length = L + 1 := by rw [hL, List.length_append]; rfl
    have e2 : bvs (l ++ [(3 : Int)]) = LV ++ [.int .u8 3] := by rw [hLV]; unfold bvs; rw [List.map_append]; rfl
    rw [e1, e2]
    exact h5 : ∀ (ob : Obj) (v' : Value) (w5 : World), _)
  have HW1 : Hid (w1 = _) := hw1
  have HLL : Hid (l.length ≤ 900000000) := hl
  rw [← hL]
  clear h hB hl k1 b1 h1 hw1 hi0 hL hLV
  go_enter Try.func74, Try.ntmps74
  go_upto_region 1 with fail
  rw [← (show w1 = _ from HW1)]
  clear HW1
  go_upto_region 2 with (at_builtin; refine wpList_append_own _ rfl (.tmp 5) (.tmp 9) 22 rfl B 5 i0 (.int .u8 0) 1 1 Try.underlying22 HI0 hz0 hz1 hz2 rfl (by decide) _ _ _ rfl (howna _) ⟨w1.heap.size, 0, none⟩ 1 1 [.int .u8 3] rfl rfl hqc h1c (by unfold maxLen; omega) (by omega) (by simp; omega) ?_; intro v' w5 hown1 hgrow1 _; obtain ⟨p1, p2, p3, p4⟩ := (show ∀ (ob : Obj) (v' : Value) (w5 : World), _ from HST) _ _ _ hown1 hgrow1; clear HST hown1 hgrow1 howna hqc h1c)
  clear u0 hbs
  have u0 : w5.cell? ⟨w.heap.size, 0, none⟩ = some (.int .i64 3) := cell_of p3 rfl
  have u2 : w5.cell? ⟨w.heap.size, 2, none⟩ = some (.string x) := cell_of p3 rfl
  have hxI : (x.size : Int) ≤ 50000000 := by omega
  have HN := sp_num x.size w5 p1 p4 (by rw [List.length_append]; have := (show l.length ≤ 900000000 from HLL); show l.length + 1 ≤ _; omega) (by omega)
  rw [List.append_assoc] at HN
  have HP2 : Hid (Kx B w w5 ∧ w5.heap[w.heap.size]? = some (.cells #[.int .i64 3, .int .i64 m, .string x, .int .i64 r] 41 (0, 0)) ∧ B ≤ w5.heap.size) := (⟨p2, p3, p4⟩ : _ ∧ _)
  clear p1 p2 p3 p4
  go_wp2_with fail
  refine HN.mono ?_
  rintro e w6 ⟨v6, rfl, r6, k6⟩
  clear HN u0 u2
  obtain ⟨p2, p3, p4⟩ := (show Kx B w w5 ∧ w5.heap[w.heap.size]? = some (.cells #[.int .i64 3, .int .i64 m, .string x, .int .i64 r] 41 (0, 0)) ∧ B ≤ w5.heap.size from HP2)
  have b6 := (k6.nt _ _ _ p3 (by decide)).trans p3
  have u2 : w6.cell? ⟨w.heap.size, 2, none⟩ = some (.string x) := cell_of b6 rfl
  have hbs : B ≤ w6.heap.size := Nat.le_trans p4 k6.size
  obtain ⟨M, hM⟩ : ∃ M, M = (l ++ ([3] ++ numb x.size)).length := ⟨_, rfl⟩
  obtain ⟨MV, hMV⟩ : ∃ MV, MV = bvs (l ++ ([3] ++ numb x.size)) := ⟨_, rfl⟩
  have hM1 : M ≤ 900000011 := by
    have := numb_ten (n := x.size) (by omega)
    have := (show l.length ≤ 900000000 from HLL)
    rw [hM, List.length_append, List.length_append]
    show l.length + (1 + (numb x.size).length) ≤ _
    omega
  rw [← hM, ← hMV] at r6
  have HST : Hid (∀ (v' : Value) (w7 : World), w7.ownsRow B 5 1 v' (M + x.size) (MV ++ Lib.strCells x) → w6.grownBy w7 v6.ownBlock → w7.ownsRow B 5 1 v' (l ++ ([3] ++ numb x.size ++ bts x)).length (bvs (l ++ ([3] ++ numb x.size ++ bts x))) ∧ Kx B w w7) := (fun v' w7 h7 g7 => by
    refine ⟨?_, (p2.trans k6).trans (Kx.grown r6 g7)⟩
    have e1 : (l ++ ([3] ++ numb x.size ++ bts x)).length = M + x.size := by rw [hM, ← List.append_assoc, List.length_append, bts_len]
    have e2 : bvs (l ++ ([3] ++ numb x.size ++ bts x)) = MV ++ Lib.strCells x := by rw [hMV, ← List.append_assoc, ← bts_cells]; unfold bvs; rw [List.map_append]
    rw [e1, e2]
    exact h7 : ∀ (v' : Value) (w7 : World), _)
  obtain ⟨ad6, cap6, rfl⟩ := own_shape r6
  clear p2 p3 p4 k6 b6 hM hMV HP2 HLL
  go_wp2_with (at_builtin; refine Lib.wpList_append_own_string _ rfl (.tmp 35) (.tmp 37) 22 9 rfl B 5 i0 Try.underlying22 Try.underlying9 HI0 hz0 hz1 hz2 _ _ _ rfl r6 x rfl (by unfold maxLen; omega) (by omega) hbs ?_; intro v' w7 hown1 hgrow1 _; have HP : Hid _ := (show ∀ (v' : Value) (w7 : World), _ from HST) _ _ hown1 hgrow1; clear HST hown1 hgrow1 r6 u2)
  go_ret
  exact ⟨_, rfl, HP⟩
end Go.Proofs.Ytamcnmnaadpfoaa.Fo

namespace Go.Proofs.Ytamcnmnaadpfoaa.Fo
open Go.ChangeShapes Go.WideShapes Go.ChangeAt Go.RowKit
set_option linter.unusedVariables false
set_option maxRecDepth 100000
/-- the bytes of a value in an image -/
def pvl (v : Gv) : List Int := if v.k = 1 then [1] ++ numb (sgn v.m) else if v.k = 2 then [2] ++ eig (v.m % 18446744073709551616).toNat 8 else if v.k = 3 then [3] ++ numb v.x.size ++ bts v.x else if v.k = 4 then [4] ++ numb v.r.toNat else [0]
/-- what is asked of a value that is packed -/
structure Pok (v : Gv) : Prop where
  k : v.k = 0 ∨ v.k = 1 ∨ v.k = 2 ∨ v.k = 3 ∨ v.k = 4
  m0 : -9223372036854775808 ≤ v.m
  m1 : v.m ≤ 9223372036854775807
  x : v.x.size ≤ 50000000
  r : v.k = 4 → 0 ≤ v.r ∧ v.r ≤ 1000000000
theorem sp_pval {B : Nat} {vo : Value} {l : List Int} {v : Gv} (w : World) (h : w.ownsRow B 5 1 vo l.length (bvs l)) (hB : B ≤ w.heap.size) (hl : l.length ≤ 900000000) (hv : Pok v) :
    Calls Try.prog 74 #[vo, gvv v] w fun e w' => ∃ v', e = .returned v' ∧ w'.ownsRow B 5 1 v' (l ++ pvl v).length (bvs (l ++ pvl v)) ∧ Kx B w w' := by
  obtain ⟨k, m, x, r⟩ := v
  obtain ⟨hk, m0, m1, hx, hr⟩ := hv
  dsimp only at hk m0 m1 hx hr
  unfold gvv pvl
  rcases hk with rfl | rfl | rfl | rfl | rfl
  · exact sp_pval_0 w h hB hl
  · exact sp_pval_1 w h hB hl m0 m1
  · exact sp_pval_2 w h hB hl m0 m1
  · exact sp_pval_3 w h hB hl hx
  · exact sp_pval_4 w h hB hl (hr rfl).1 (hr rfl).2
theorem pvl_len {v : Gv} (hv : Pok v) : (pvl v).length ≤ 11 + v.x.size := by
  obtain ⟨k, m, x, r⟩ := v
  obtain ⟨hk, m0, m1, hx, hr⟩ := hv
  dsimp only at hk m0 m1 hx hr ⊢
  unfold pvl
  rcases hk with rfl | rfl | rfl | rfl | rfl
  · show 1 ≤ _; omega
  · have := numb_ten (sgn_lt m0 m1)
    show (numb (sgn m)).length + 1 ≤ _
    omega
  · show (_ :: eig _ 8).length ≤ _
    rw [List.length_cons, eig_len]; omega
  · have := numb_ten (n := x.size) (by omega)
    show ([3] ++ numb x.size ++ bts x).length ≤ _
    rw [List.length_append, List.length_append, bts_len]
    show 1 + _ + _ ≤ _
    omega
  · have := numb_ten (n := r.toNat) (by have := hr rfl; omega)
    show (numb r.toNat).length + 1 ≤ _
    omega
end Go.Proofs.Ytamcnmnaadpfoaa.Fo
