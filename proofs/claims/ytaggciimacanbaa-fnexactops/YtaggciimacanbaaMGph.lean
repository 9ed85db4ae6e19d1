import Derived.Laws.Bits64b
import Derived.Lib.AppendStr
import Derived.Test.YtaggciimacanbaaMGde
import Derived.Test.YtaggciimacanbaaMSuc
namespace Go.Proofs.Ytaggciimacanbaa.Fo
open Go.ChangeShapes Go.WideShapes Go.ChangeAt Go.RowKit
set_option linter.unusedVariables false
set_option maxRecDepth 100000
abbrev bvs (l : List Int) : List Value := l.map (fun x => Value.int .u8 x)
/-- all that was there is kept, but for rows of bytes from B on -/
structure Kx (B : Nat) (w w' : World) : Prop where
  os : w'.os = w.os
  output : w'.output = w.output
  size : w.heap.size ≤ w'.heap.size
  lo : ∀ k, k < B → k < w.heap.size → w'.heap[k]? = w.heap[k]?
  nt : ∀ (k : Nat) (c : Array Value) (t : TypeId), w.heap[k]? = some (.cells c t (0, 0)) → t ≠ 5 → w'.heap[k]? = w.heap[k]?
theorem Kx.refl (B : Nat) (w : World) : Kx B w w := ⟨rfl, rfl, Nat.le_refl _, fun _ _ _ => rfl, fun _ _ _ _ _ => rfl⟩
theorem Kx.trans {B : Nat} {a b c : World} (h : Kx B a b) (k : Kx B b c) : Kx B a c :=
  ⟨k.os.trans h.os, k.output.trans h.output, Nat.le_trans h.size k.size, fun i h1 h2 => (k.lo i h1 (Nat.lt_of_lt_of_le h2 h.size)).trans (h.lo i h1 h2), fun i q t h1 h2 => (k.nt i q t ((h.nt i q t h1 h2).trans h1) h2).trans (h.nt i q t h1 h2)⟩
theorem Kx.of_kb {B : Nat} {w w' : World} (k : Kb 0 w w') : Kx B w w' := ⟨k.os, k.output, k.size, fun i _ h => k.block i (Nat.zero_le _) h, fun i _ _ h _ => k.block i (Nat.zero_le _) (Array.getElem?_eq_some_iff.1 h).1⟩
/-- a byte row grew -/
theorem Kx.grown {B n : Nat} {w w' : World} {v : Value} {l : List Value} (h : w.ownsRow B 5 1 v n l) (g : w.grownBy w' v.ownBlock) : Kx B w w' :=
  ⟨g.os, g.output, g.size, fun k h1 h2 => g.block k h2 (fun e => by have := (h.lt k e.symm).1; omega), fun k c t h1 h2 => g.block k (Array.getElem?_eq_some_iff.1 h1).1 (fun e => own_ty h h1 (fun q => h2 q.symm) e.symm rfl)⟩
/-- the first k bytes of a number, the low ones first -/
def eig (n : Nat) : Nat → List Int
  | 0 => []
  | k + 1 => eig n k ++ [((n / 256 ^ k % 256 : Nat) : Int)]
theorem eig_len (n : Nat) : ∀ k, (eig n k).length = k
  | 0 => rfl
  | k + 1 => by show (eig n k ++ [_]).length = _; rw [List.length_append, eig_len n k]; rfl
theorem infoB : (Try.prog.info? 5).map (fun i => (i.zero, i.size, i.bytes)) = some (some (.int .u8 0), 1, 1) := by kernel_rfl
set_option maxHeartbeats 8000000 in
theorem sp_eight {B : Nat} {v : Value} {l : List Int} (n : Nat) (w : World) (h : w.ownsRow B 5 1 v l.length (bvs l)) (hB : B ≤ w.heap.size) (hl : l.length ≤ 1000000000) (hn : n < 18446744073709551616) :
    Calls Try.prog 108 #[v, .int .u64 (n : Int)] w fun e w' => ∃ v', e = .returned v' ∧ w'.ownsRow B 5 1 v' (l ++ eig n 8).length (bvs (l ++ eig n 8)) ∧ Kx B w w' := by
  obtain ⟨i0, hi0, hz0, hz1, hz2⟩ := info_parts infoB
  have HI0 : Hid (Try.prog.info? 5 = some i0) := hi0
  have HS : Hid (w.ownsRow B 5 1 v (l ++ eig n 0).length (bvs (l ++ eig n 0)) ∧ Kx B w w) := by
    show w.ownsRow B 5 1 v (l ++ []).length (bvs (l ++ [])) ∧ Kx B w w
    rw [List.append_nil]
    exact ⟨h, Kx.refl _ _⟩
  obtain ⟨ad, cap, rfl⟩ := own_shape h
  have HB : Hid (B ≤ w.heap.size ∧ l.length ≤ 1000000000) := (⟨hB, hl⟩ : _ ∧ _)
  clear h hB hl hi0
  go_enter Try.func108, Try.ntmps108
  go_wp2_with fail
  go_loopw [0, 1, 5] (fun s0 s1 s5 wr => ∃ k : Nat, s5 = .int .i64 (k : Int) ∧ k ≤ 8 ∧ s1 = .int .u64 ((n / 256 ^ k : Nat) : Int) ∧ Hid (wr.ownsRow B 5 1 s0 (l ++ eig n k).length (bvs (l ++ eig n k)) ∧ Kx B w wr)) (fun _ _ s5 _ => 8 - (intOf s5).toNat)
  case atStart => exact ⟨0, rfl, by omega, by simp, HS⟩
  case round =>
    clear HS
    obtain ⟨k, rfl, hk, rfl, HX⟩ := hrel
    obtain ⟨ho, hx⟩ := (show wr.ownsRow B 5 1 _ (l ++ eig n k).length (bvs (l ++ eig n k)) ∧ Kx B w wr from HX)
    rcases Nat.lt_or_ge k 8 with hk8 | hk8
    case inr =>
      obtain rfl : k = 8 := by omega
      clear ho hx
      go_wp2_with fail
      go_ret
      exact ⟨_, rfl, HX⟩
    have hkI : (k : Int) < 8 := by omega
    obtain ⟨X, hX⟩ : ∃ X : Nat, X = n / 256 ^ k := ⟨_, rfl⟩
    have hX1 : X < 18446744073709551616 := by rw [hX]; exact Nat.lt_of_le_of_lt (Nat.div_le_self _ _) hn
    rw [← hX]
    obtain ⟨ad, cap, rfl⟩ := own_shape ho
    obtain ⟨hB, hl⟩ := (show B ≤ w.heap.size ∧ l.length ≤ 1000000000 from HB)
    have hlen : (l ++ eig n k).length = l.length + k := by rw [List.length_append, eig_len]
    obtain ⟨L, hL⟩ : ∃ L, L = (l ++ eig n k).length := ⟨_, rfl⟩
    obtain ⟨LV, hLV⟩ : ∃ LV, LV = bvs (l ++ eig n k) := ⟨_, rfl⟩
    have hL1 : L ≤ 1000000008 := by omega
    rw [← hL, ← hLV] at ho
    rw [← hL]
    have howna : ∀ ob : Obj, (wr.alloc ob).ownsRow B 5 1 (.slice ad L cap) L LV := fun ob => ho.alloc ob
    have hqc : ∀ (j : Nat) (u : Value), ([.int .u8 ((X % 256 : Nat) : Int)] : List Value)[j]? = some u → (wr.alloc (.cells #[.int .u8 ((X % 256 : Nat) : Int)] 5)).cell? ((⟨wr.heap.size, 0, none⟩ : Addr).add j) = some u := qr_cells wr #[.int .u8 ((X % 256 : Nat) : Int)] 5 [.int .u8 ((X % 256 : Nat) : Int)] rfl
    have h1c : ∀ u ∈ ([.int .u8 ((X % 256 : Nat) : Int)] : List Value), u.oneCell' = true := by intro u hu; simp at hu; subst hu; rfl
    have hbs : B ≤ wr.heap.size := Nat.le_trans hB hx.size
    have HSTP : Hid (∀ (ob : Obj) (v' : Value) (w5 : World), w5.ownsRow B 5 1 v' (L + 1) (LV ++ [.int .u8 ((X % 256 : Nat) : Int)]) → (wr.alloc ob).grownBy w5 (Value.slice ad L cap).ownBlock → w5.ownsRow B 5 1 v' (l ++ eig n (k + 1)).length (bvs (l ++ eig n (k + 1))) ∧ Kx B w w5) := (fun ob v' w5 h5 g5 => by
      refine ⟨?_, hx.trans ((Kx.of_kb (kb_alloc 0 wr ob)).trans (Kx.grown (howna ob) g5))⟩
      have e1 : (l ++ eig n (k + 1)).length = L + 1 := by rw [hL, List.length_append, List.length_append, eig_len, eig_len]; omega
      have e2 : bvs (l ++ eig n (k + 1)) = LV ++ [.int .u8 ((X % 256 : Nat) : Int)] := by
        rw [hLV, hX]
        show bvs (l ++ (eig n k ++ [((n / 256 ^ k % 256 : Nat) : Int)])) = _
        unfold bvs
        rw [← List.append_assoc, List.map_append]
        rfl
      rw [e1, e2]
      exact h5 : ∀ (ob : Obj) (v' : Value) (w5 : World), _)
    have HXN : Hid (n / 256 ^ (k + 1) = X / 256) := (by rw [hX, Nat.pow_succ, Nat.div_div_eq_div_mul] : n / 256 ^ (k + 1) = X / 256)
    clear HX hx ho hB hl hlen hL hLV hX HB
    have hw8 : IntKind.u8.wrap (X : Int) = ((X % 256 : Nat) : Int) := by simp [IntKind.wrap, IntKind.signed, IntKind.bits]
    go_upto_region 5 with (at_builtin; refine wpList_append_own _ rfl (.tmp 10) (.tmp 13) 26 rfl B 5 i0 (.int .u8 0) 1 1 Try.underlying26 HI0 hz0 hz1 hz2 rfl (by decide) _ _ _ rfl (howna _) ⟨wr.heap.size, 0, none⟩ 1 1 [.int .u8 ((X % 256 : Nat) : Int)] rfl rfl hqc h1c (by unfold maxLen; omega) (by omega) (by simp; omega) ?_; intro v' w5 hown1 hgrow1 _; obtain ⟨p1, p2⟩ := (show ∀ (ob : Obj) (v' : Value) (w5 : World), _ from HSTP) _ _ _ hown1 hgrow1; have HP : Hid (w5.ownsRow B 5 1 v' (l ++ eig n (k + 1)).length (bvs (l ++ eig n (k + 1))) ∧ Kx B w w5) := (⟨p1, p2⟩ : _ ∧ _); clear HSTP hown1 hgrow1 howna hqc h1c p1 p2)
    go_wp2_with fail
    go_roundw
    case rel => exact ⟨k + 1, by go_num, by omega, by rw [show n / 256 ^ (k + 1) = X / 256 from HXN]; exact congrArg (Value.int .u64) (by omega), HP⟩
    case measure => simp [intOf]; omega
end Go.Proofs.Ytaggciimacanbaa.Fo

namespace Go.Proofs.Ytaggciimacanbaa.Fo
open Go.ChangeShapes Go.WideShapes Go.ChangeAt Go.RowKit
set_option linter.unusedVariables false
set_option maxRecDepth 100000
/-- a number in groups of seven bits, the low ones first -/
def numb (n : Nat) : List Int := if h : n ≤ 127 then [(n : Int)] else ((n % 128 + 128 : Nat) : Int) :: numb (n / 128)
termination_by n
decreasing_by omega
theorem numb_lt {n : Nat} (h : n ≤ 127) : numb n = [(n : Int)] := by rw [numb, dif_pos h]
theorem numb_ge {n : Nat} (h : ¬ n ≤ 127) : numb n = ((n % 128 + 128 : Nat) : Int) :: numb (n / 128) := by rw [numb, dif_neg h]
theorem numb_len : ∀ (k n : Nat), n < 128 ^ (k + 1) → (numb n).length ≤ k + 1
  | 0, n, h => by rw [numb_lt (by omega)]; exact Nat.le_refl _
  | k + 1, n, h => by
    by_cases q : n ≤ 127
    · rw [numb_lt q]; show 1 ≤ _; omega
    · rw [numb_ge q]
      have h2 : n / 128 < 128 ^ (k + 1) := by
        rw [Nat.div_lt_iff_lt_mul (by omega)]
        rw [Nat.pow_succ] at h
        exact h
      have := numb_len k (n / 128) h2
      show (numb (n / 128)).length + 1 ≤ _
      omega
theorem numb_ten {n : Nat} (h : n < 18446744073709551616) : (numb n).length ≤ 10 := numb_len 9 n (Nat.lt_of_lt_of_le h (by decide))
/-- a number with a sign as one without -/
def sgn (n : Int) : Nat := if n < 0 then (-(n + 1)).toNat * 2 + 1 else n.toNat * 2
end Go.Proofs.Ytaggciimacanbaa.Fo

namespace Go.Proofs.Ytaggciimacanbaa.Fo
open Go.ChangeShapes Go.WideShapes Go.ChangeAt Go.RowKit
set_option linter.unusedVariables false
set_option maxRecDepth 100000
theorem or128 : ∀ b : Fin 128, (b.val ||| 128) = b.val + 128 := by decide
/-- a group that is not the last -/
theorem grp (X : Nat) (h : X < 18446744073709551616) : bits BinOp.or IntKind.u64 (bits BinOp.and IntKind.u64 (X : Int) 127) 128 = ((X % 128 + 128 : Nat) : Int) := by
  have e1 : bits BinOp.and IntKind.u64 (X : Int) 127 = ((X % 128 : Nat) : Int) := by
    have := bits_and_u64_nat X 127 h (by decide)
    rw [show X &&& 127 = X % 128 from Nat.and_two_pow_sub_one_eq_mod X 7] at this
    exact this
  rw [e1]
  have e2 := bits_or_u64_nat (X % 128) 128 (by omega) (by decide)
  rw [or128 ⟨X % 128, Nat.mod_lt _ (by decide)⟩] at e2
  exact e2
end Go.Proofs.Ytaggciimacanbaa.Fo

namespace Go.Proofs.Ytaggciimacanbaa.Fo
open Go.ChangeShapes Go.WideShapes Go.ChangeAt Go.RowKit
set_option linter.unusedVariables false
set_option maxRecDepth 100000
theorem sgn_lt {n : Int} (h1 : -9223372036854775808 ≤ n) (h2 : n ≤ 9223372036854775807) : sgn n < 18446744073709551616 := by
  unfold sgn
  split <;> omega
end Go.Proofs.Ytaggciimacanbaa.Fo

namespace Go.Proofs.Ytaggciimacanbaa.Fo
open Go.ChangeShapes Go.WideShapes Go.ChangeAt Go.RowKit
set_option linter.unusedVariables false
set_option maxRecDepth 100000
end Go.Proofs.Ytaggciimacanbaa.Fo

namespace Go.Proofs.Ytaggciimacanbaa.Fo
open Go.ChangeShapes Go.WideShapes Go.ChangeAt Go.RowKit
set_option linter.unusedVariables false
set_option maxRecDepth 100000
end Go.Proofs.Ytaggciimacanbaa.Fo

namespace Go.Proofs.Ytaggciimacanbaa.Fo
open Go.ChangeShapes Go.WideShapes Go.ChangeAt Go.RowKit
set_option linter.unusedVariables false
set_option maxRecDepth 100000
def bts (x : ByteArray) : List Int := x.data.toList.map (fun b => (b.toNat : Int))
theorem bts_cells (x : ByteArray) : bvs (bts x) = Lib.strCells x := by
  unfold bvs bts Lib.strCells
  rw [List.map_map]
  rfl
theorem bts_len (x : ByteArray) : (bts x).length = x.size := by
  unfold bts
  rw [List.length_map]
  rfl
end Go.Proofs.Ytaggciimacanbaa.Fo

namespace Go.Proofs.Ytaggciimacanbaa.Fo
open Go.ChangeShapes Go.WideShapes Go.ChangeAt Go.RowKit
set_option linter.unusedVariables false
set_option maxRecDepth 100000
/-- the bytes of a value in an image -/
def pvl (v : Gv) : List Int := if v.k = 1 then [1] ++ numb (sgn v.m) else if v.k = 2 then [2] ++ eig (v.m % 18446744073709551616).toNat 8 else if v.k = 3 then [3] ++ numb v.x.size ++ bts v.x else if v.k = 4 then [4] ++ numb v.r.toNat else [0]
/-- what is asked of a value that is packed -/
structure Pok (v : Gv) : Prop where
  k : v.k = 0 ∨ v.k = 1 ∨ v.k = 2 ∨ v.k = 3 ∨ v.k = 4
  m0 : -9223372036854775808 ≤ v.m
  m1 : v.m ≤ 9223372036854775807
  x : v.x.size ≤ 50000000
  r : v.k = 4 → 0 ≤ v.r ∧ v.r ≤ 1000000000
theorem pvl_len {v : Gv} (hv : Pok v) : (pvl v).length ≤ 11 + v.x.size := by
  obtain ⟨k, m, x, r⟩ := v
  obtain ⟨hk, m0, m1, hx, hr⟩ := hv
  dsimp only at hk m0 m1 hx hr ⊢
  unfold pvl
  rcases hk with rfl | rfl | rfl | rfl | rfl
  · show 1 ≤ _; omega
  · have := numb_ten (sgn_lt m0 m1)
    show (numb (sgn m)).length + 1 ≤ _
    omega
  · show (_ :: eig _ 8).length ≤ _
    rw [List.length_cons, eig_len]; omega
  · have := numb_ten (n := x.size) (by omega)
    show ([3] ++ numb x.size ++ bts x).length ≤ _
    rw [List.length_append, List.length_append, bts_len]
    show 1 + _ + _ ≤ _
    omega
  · have := numb_ten (n := r.toNat) (by have := hr rfl; omega)
    show (numb r.toNat).length + 1 ≤ _
    omega
end Go.Proofs.Ytaggciimacanbaa.Fo
