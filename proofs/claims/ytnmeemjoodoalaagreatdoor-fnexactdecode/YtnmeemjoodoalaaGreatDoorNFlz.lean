import Derived.Test.YtnmeemjoodoalaaGreatDoorNFlt
namespace Go.Proofs.YtnmeemjoodoalaaGreatDoor.Flt
open Ieee
def F (m q : Nat) : Nat:=double.nearest false m ((q : Int) - 1074)
theorem F_canon {m q : Nat} (hm : m ≠ 0) (h : m < 9007199254740992) (hq : q ≤ 2045) :
    ∃ m' k',Canon m' k' ∧ m' ≠ 0 ∧ m' * 2 ^ k' = m * 2 ^ q:=by
  have hl : m.log2 < 53:=(Nat.log2_lt hm).2 (by omega)
  have h2 : m < 2 ^ (m.log2 + 1):=Nat.lt_log2_self
  have h1 : 2 ^ m.log2 ≤ m:=Nat.log2_self_le hm
  have ev : ∀ d,d ≤ q → m * 2 ^ d * 2 ^ (q - d) = m * 2 ^ q:=fun d hd=>by
    rw [Nat.mul_assoc,← Nat.pow_add];congr 2;omega
  have nz : ∀ d,m * 2 ^ d ≠ 0:=fun d=>Nat.mul_ne_zero hm (by have:=Nat.two_pow_pos d;omega)
  by_cases hc : 52 - m.log2 ≤ q
  · refine ⟨m * 2 ^ (52 - m.log2),q - (52 - m.log2),⟨?_,Or.inl ?_,by omega⟩,nz _,ev _ hc⟩
    · have h3 : m * 2 ^ (52 - m.log2) < 2 ^ (m.log2 + 1) * 2 ^ (52 - m.log2):=Nat.mul_lt_mul_of_pos_right h2 (Nat.two_pow_pos _)
      rw [← Nat.pow_add] at h3
      have e : m.log2 + 1 + (52 - m.log2) = 53:=by omega
      rw [e] at h3;exact h3
    · have h3 : 2 ^ m.log2 * 2 ^ (52 - m.log2) ≤ m * 2 ^ (52 - m.log2):=Nat.mul_le_mul_right _ h1
      rw [← Nat.pow_add] at h3
      have e : m.log2 + (52 - m.log2) = 52:=by omega
      rw [e] at h3;exact h3
  · refine ⟨m * 2 ^ q,0,⟨?_,Or.inr rfl,by omega⟩,nz _,by simp⟩
    have h3 : m * 2 ^ q < 2 ^ (m.log2 + 1) * 2 ^ q:=Nat.mul_lt_mul_of_pos_right h2 (Nat.two_pow_pos _)
    rw [← Nat.pow_add] at h3
    have h4 : 2 ^ (m.log2 + 1 + q) ≤ 2 ^ 53:=Nat.pow_le_pow_right (by omega) (by omega)
    omega
theorem F_word {m k : Nat} (h : Canon m k) : F m k = double.word false (k * 4503599627370496 + m):=by
  unfold F
  by_cases hm : m = 0
  · subst hm
    have hk : k = 0:=by have:=h.low;omega
    subst hk
    rw [nearest_zero]
  · exact nearest_val false h m k hm rfl
theorem F_eq {m q m' k' : Nat} (h : Canon m' k') (h0 : m' ≠ 0) (e : m' * 2 ^ k' = m * 2 ^ q) : F m q = double.word false (k' * 4503599627370496 + m') :=
  nearest_val false h m q h0 e.symm
theorem F_zero (q : Nat) : F 0 q = 0:=by unfold F;rw [nearest_zero];rfl
theorem F_read {m q : Nat} (h : m < 9007199254740992) (hq : q ≤ 2045) :
    ∃ m' k' : Nat,double.read (F m q) = .number false m' ((k' : Int) - 1074) ∧ m' * 2 ^ k' = m * 2 ^ q:=by
  by_cases hm : m = 0
  · subst hm
    rw [F_zero]
    exact ⟨0,0,zero_read,by simp⟩
  · obtain ⟨m',k',hc,h0,e⟩:=F_canon hm h hq
    exact ⟨m',k',by rw [F_eq hc h0 e,read_word false hc],e⟩
theorem nearest_val2 (s : Bool) {m k : Nat} (h : Canon m k) (mag p c : Nat) (hm : m ≠ 0) (he : mag * 2 ^ p = m * 2 ^ (k + c)) :
    double.nearest s mag ((p : Int) - 1074 - c) = double.word s (k * 4503599627370496 + m):=by
  refine nearest_exact s h mag _ hm ?_
  by_cases hpk : k + c ≤ p
  · refine Or.inl ⟨p - (k + c),by omega,?_⟩
    have e : mag * 2 ^ p = mag * 2 ^ (p - (k + c)) * 2 ^ (k + c):=by rw [Nat.mul_assoc,← Nat.pow_add];congr 2;omega
    rw [e] at he
    exact (Nat.eq_of_mul_eq_mul_right (Nat.two_pow_pos _) he).symm
  · refine Or.inr ⟨k + c - p,by omega,?_⟩
    have e : m * 2 ^ (k + c) = m * 2 ^ (k + c - p) * 2 ^ p:=by rw [Nat.mul_assoc,← Nat.pow_add];congr 2;omega
    rw [e] at he
    exact Nat.eq_of_mul_eq_mul_right (Nat.two_pow_pos p) he
theorem F_mul {m q l q' c : Nat} (hm : m < 9007199254740992) (hq : q ≤ 2045) (hq' : q' ≤ 2045)
    (hc : double.read c = .number false 4503599627370496 ((l : Int) - 1074)) (he : q' + eU = q + l + 52) : double.mul (F m q) c = some (F m q'):=by
  obtain ⟨m',k',hr,hv⟩:=F_read hm hq
  unfold Format.mul
  rw [hr,hc]
  simp only [Datum.product,Bool.xor_false,Option.map_some,Format.write,Option.some.injEq]
  have ep : ((k' : Int) - 1074 + ((l : Int) - 1074)) = ((k' + l : Nat) : Int) - 1074 - (eU : Nat):=by
    have : ((eU : Nat) : Int) = 1074:=by decide
    omega
  rw [ep]
  by_cases h0 : m = 0
  · subst h0
    have : m' = 0:=by
      have:=Nat.two_pow_pos k'
      rcases Nat.mul_eq_zero.1 (by rw [hv];simp : m' * 2 ^ k' = 0) with g | g
      · exact g
      · omega
    subst this
    rw [Nat.zero_mul,nearest_zero,F_zero]
    rfl
  · obtain ⟨M,K,hC,hM,hV⟩:=F_canon h0 hm hq'
    rw [F_eq hC hM hV]
    refine nearest_val2 false hC _ _ _ hM ?_
    have e52 : (4503599627370496 : Nat) = 2 ^ 52:=by decide
    have e1 : m' * 4503599627370496 * 2 ^ (k' + l) = m' * 2 ^ k' * 2 ^ (l + 52):=by
      rw [e52,Nat.mul_assoc,← Nat.pow_add,Nat.mul_assoc,← Nat.pow_add];congr 2;omega
    have e2 : M * 2 ^ (K + eU) = M * 2 ^ K * 2 ^ eU:=by rw [Nat.pow_add,Nat.mul_assoc]
    rw [e1,hv,e2,hV,Nat.mul_assoc,Nat.mul_assoc,← Nat.pow_add,← Nat.pow_add]
    have e3 : q + (l + 52) = q' + eU:=by omega
    rw [e3]
def eH : Nat:=1021
def eT : Nat:=1023
theorem half_read : double.read 4602678819172646912 = .number false 4503599627370496 (((eH : Nat) : Int) - 1074):=by decide
theorem two_read : double.read 4611686018427387904 = .number false 4503599627370496 (((eT : Nat) : Int) - 1074):=by decide
theorem F_half {m q : Nat} (hm : m < 9007199254740992) (hq : q + 1 ≤ 2045) : floatBits .mul .f64 (F m (q + 1)) 4602678819172646912 = some (F m q) :=
  F_mul hm hq (by omega) half_read (by unfold eU eH;omega)
theorem F_two {m q : Nat} (hm : m < 9007199254740992) (hq : q + 1 ≤ 2045) : floatBits .mul .f64 (F m q) 4611686018427387904 = some (F m (q + 1)) :=
  F_mul hm (by omega) hq two_read (by unfold eU eT;omega)
theorem two_val : 4503599627370496 * 2 ^ eT = 2 * U:=by
  have:=U_eq 51 eT (by decide)
  rw [this]
  have e : (4503599627370496 : Nat) = 2 * 2 ^ 51:=by decide
  rw [e,Nat.mul_assoc]
theorem F_order_two {m q : Nat} (hm : m < 9007199254740992) (hq : q ≤ 2045) : FloatKind.f64.format.order (F m q) 4611686018427387904 = some (compare ((m * 2 ^ q : Nat) : Int) ((2 * U : Nat) : Int)):=by
  obtain ⟨m',k',hr,hv⟩:=F_read hm hq
  show double.order _ _ = _
  unfold Format.order
  rw [hr,two_read,order_num,two_val,hv]
  simp only [vl,Bool.false_eq_true,if_false]
theorem F_conv {t : Nat} (h : t < 9007199254740992) : floatToIntVal .f64 (F t eU) .u64 = some (t : Int):=by
  obtain ⟨m',k',hr,hv⟩:=F_read h (q:=eU) (by decide)
  have e : (FloatKind.f64.decode (F t eU)).toInt .zero = some (t : Int):=by
    unfold FloatKind.decode
    show (double.read _).toInt .zero = _
    rw [hr]
    unfold Datum.toInt Datum.integral
    simp only [cut_zero,(units m' k').1,signed_vl,Nat.pow_zero,Nat.mul_one,hv]
    show some (vl false (t * U / U)) = _
    rw [Nat.mul_div_cancel _ U_pos]
    rfl
  unfold floatToIntVal
  simp only [e]
  have bb : IntKind.u64.min ≤ (t : Int) ∧ (t : Int) ≤ IntKind.u64.max:=by
    have h1 : IntKind.u64.min = 0:=by decide
    have h2 : IntKind.u64.max = 18446744073709551615:=by decide
    omega
  rw [if_pos bb]
theorem pow_le {a b : Nat} (h : a ≤ b) (m : Nat) : m * 2 ^ a ≤ m * 2 ^ b:=Nat.mul_le_mul_left _ (Nat.pow_le_pow_right (by omega) h)
def eM : Nat:=2045
theorem ord_zero {m k : Nat} (s : Bool) (h : Canon m k) (hm : m ≠ 0) : FloatKind.f64.format.order (double.word s (k * 4503599627370496 + m)) 0 = some (if s then .lt else .gt):=by
  show double.order _ _ = _
  unfold Format.order
  rw [read_word s h,zero_read,order_num]
  have hV : 0 < m * 2 ^ k:=Nat.mul_pos (by omega) (Nat.two_pow_pos k)
  cases s
  · simp only [vl,Bool.false_eq_true,if_false]
    rw [cmp_gt (by omega)]
  · simp only [vl,if_true,Bool.false_eq_true,if_false]
    rw [cmp_lt (by omega)]
theorem xor_top (r : Nat) (h : r < 2 ^ 63) : r ^^^ 2 ^ 63 = 2 ^ 63 + r:=by
  apply Nat.eq_of_testBit_eq
  intro i
  rw [Nat.testBit_xor,Nat.testBit_two_pow]
  rcases Nat.lt_trichotomy i 63 with g | g | g
  · rw [Nat.testBit_two_pow_add_gt g]
    have : decide (63 = i) = false:=by simp;omega
    rw [this];simp
  · subst g
    rw [Nat.testBit_two_pow_add_eq,Nat.testBit_lt_two_pow h];rfl
  · have h1 : r.testBit i = false:=Nat.testBit_lt_two_pow (Nat.lt_of_lt_of_le h (Nat.pow_le_pow_right (by omega) (by omega)))
    have h2 : (2 ^ 63 + r).testBit i = false:=Nat.testBit_lt_two_pow (by
      have : 2 ^ 64 ≤ 2 ^ i:=Nat.pow_le_pow_right (by omega) (by omega)
      omega)
    have : decide (63 = i) = false:=by simp;omega
    rw [h1,h2,this];rfl
theorem neg_word (s : Bool) (r : Nat) (h : r < 9223372036854775808) : Op.negFloat .f64 (double.word s r) = double.word (!s) r:=by
  have e:=xor_top r h
  unfold Op.negFloat
  show double.word s r ^^^ 2 ^ 63 = _
  unfold Format.word
  rw [c_sw]
  cases s
  · simp only [Bool.false_eq_true,if_false,Bool.not_false,if_true]
    exact e
  · simp only [Bool.false_eq_true,if_false,Bool.not_true,if_true]
    have e2 : (9223372036854775808 + r) = r ^^^ 2 ^ 63:=e.symm
    rw [e2,Nat.xor_assoc,Nat.xor_self,Nat.xor_zero]
theorem nan_word (s : Bool) (q : Nat) (h0 : q ≠ 0) (h1 : q < 4503599627370496) : ∃ s' t,double.read (double.word s (9218868437227405312 + q)) = .nan s' t:=by
  obtain ⟨e1,e2⟩:=word_parts s (9218868437227405312 + q) (by omega)
  refine ⟨s,q,?_⟩
  unfold Format.read
  simp only [e1,e2,c_bn,c_ir]
  rw [if_neg (by omega),if_neg (by omega),if_neg (by omega)]
  have e3 : 9218868437227405312 + q - 9218868437227405312 = q:=by omega
  rw [e3]
theorem F_order {m q m' q' : Nat} (hm : m < 9007199254740992) (hq : q ≤ 2045) (hm' : m' < 9007199254740992) (hq' : q' ≤ 2045) : FloatKind.f64.format.order (F m q) (F m' q') = some (compare ((m * 2 ^ q : Nat) : Int) ((m' * 2 ^ q' : Nat) : Int)):=by
  obtain ⟨a,b,hr,hv⟩:=F_read hm hq
  obtain ⟨a',b',hr',hv'⟩:=F_read hm' hq'
  show double.order _ _ = _
  unfold Format.order
  rw [hr,hr',order_num,hv,hv']
  simp only [vl,Bool.false_eq_true,if_false]
theorem F_half0 {m : Nat} (h0 : m ≠ 0) (h : m < 9007199254740992) : ∃ r,floatBits .mul .f64 (F m 0) 4602678819172646912 = some r ∧ FloatKind.f64.format.order r (F m 0) = some .lt:=by
  have hc : Canon m 0:=⟨h,.inr rfl,by omega⟩
  have hx : F m 0 = double.word false (0 * 4503599627370496 + m):=F_eq hc h0 (by simp)
  have hr:=read_word false hc
  rw [← hx] at hr
  obtain ⟨kept,hk,hkl⟩ : ∃ kept,double.nearest false (m * 4503599627370496) (((0 : Nat) : Int) - 1074 + (((eH : Nat) : Int) - 1074)) = double.word false (0 * 4503599627370496 + kept) ∧ kept < m:=by
    have hl : (m * 4503599627370496).log2 = m.log2 + 52:=by
      have:=log2_mul_pow h0 52
      rwa [show (2 : Nat) ^ 52 = 4503599627370496 by decide] at this
    have hl53 : m.log2 < 53:=(Nat.log2_lt h0).2 (by omega)
    have hl2 : m < 2 ^ (m.log2 + 1):=Nat.lt_log2_self
    have ef : double.fractionBits = 52:=rfl
    have eh : ((eH : Nat) : Int) = 1021:=by decide
    unfold Format.nearest
    rw [if_neg (by omega),hl,ef,c_lp,eh]
    have elast : max (((0 : Nat) : Int) - 1074 + (1021 - 1074) + ((m.log2 + 52 : Nat) : Int) - ((52 : Nat) : Int)) (-1074) = -1074:=by omega
    have e1 : (((0 : Nat) : Int) - 1074 + (1021 - 1074) - -1074).toNat = 0:=by omega
    have e2 : ((-1074 : Int) - (((0 : Nat) : Int) - 1074 + (1021 - 1074))).toNat = 53:=by omega
    have e3 : ((-1074 : Int) - -1074).toNat = 0:=by omega
    dsimp only
    rw [elast,e1,e2,e3,Nat.shiftLeft_zero,Nat.zero_mul,Nat.zero_add,c_ir]
    have hmin : min 53 ((m * 4503599627370496).log2 + 2) = 53:=by rw [hl];omega
    refine ⟨Toward.even.cut false (m * 4503599627370496) 53,?_,?_⟩
    · have hcut : Toward.even.cut false (m * 4503599627370496) 53 ≤ m := by
        unfold Toward.cut
        rw [hmin]
        dsimp only
        rw [show (1 : Nat) <<< 53 = 9007199254740992 by decide]
        have hd : m * 4503599627370496 / 9007199254740992 = m / 2:=by omega
        have hr2 : m * 4503599627370496 % 9007199254740992 = m % 2 * 4503599627370496:=by omega
        rw [hd,hr2]
        have:=Bool.toNat_le (decide (9007199254740992 < 2 * (m % 2 * 4503599627370496)) || 9007199254740992 == 2 * (m % 2 * 4503599627370496) && m / 2 % 2 == 1)
        omega
      rw [Nat.min_eq_left (by omega)]
      simp
    · unfold Toward.cut
      rw [hmin]
      dsimp only
      rw [show (1 : Nat) <<< 53 = 9007199254740992 by decide]
      have hd : m * 4503599627370496 / 9007199254740992 = m / 2:=by omega
      have hr2 : m * 4503599627370496 % 9007199254740992 = m % 2 * 4503599627370496:=by omega
      rw [hd,hr2]
      by_cases g : m ≤ 2
      · have : m = 1 ∨ m = 2:=by omega
        rcases this with rfl | rfl <;> decide
      · have:=Bool.toNat_le (decide (9007199254740992 < 2 * (m % 2 * 4503599627370496)) || 9007199254740992 == 2 * (m % 2 * 4503599627370496) && m / 2 % 2 == 1)
        omega
  have hck : Canon kept 0:=⟨by omega,.inr rfl,by omega⟩
  refine ⟨double.word false (0 * 4503599627370496 + kept),?_,?_⟩
  · show double.mul _ _ = _
    unfold Format.mul
    rw [hr,half_read]
    simp only [Datum.product,Bool.xor_false,Option.map_some,Format.write,Option.some.injEq]
    exact hk
  · show double.order _ _ = _
    unfold Format.order
    rw [read_word false hck,hr,order_num]
    simp only [vl,Bool.false_eq_true,if_false]
    rw [cmp_lt (by simp;omega)]
theorem F_halve {m q : Nat} (h0 : m ≠ 0) (h : m < 9007199254740992) (hq : q ≤ 2045) : ∃ r,floatBits .mul .f64 (F m q) 4602678819172646912 = some r ∧ FloatKind.f64.format.order r (F m q) = some .lt:=by
  cases q with
  | zero=>exact F_half0 h0 h
  | succ q =>
    refine ⟨F m q,F_half h hq,?_⟩
    rw [F_order h (by omega) h hq,cmp_lt]
    rw [Nat.pow_succ]
    have:=Nat.mul_pos (Nat.pos_of_ne_zero h0) (Nat.two_pow_pos q)
    rw [← Nat.mul_assoc]
    omega
def e53 : Nat:=1075
theorem c53 : F 4503599627370496 e53 = 4845873199050653696:=by
  rw [F_word (⟨by omega,Or.inl (by omega),by decide⟩ : Canon 4503599627370496 e53)]
  decide
theorem c52 : F 4503599627370496 eU = 4841369599423283200:=by
  rw [F_word (⟨by omega,Or.inl (by omega),by decide⟩ : Canon 4503599627370496 eU)]
  decide
theorem p53 : 2 ^ e53 = 2 * 2 ^ eU:=by
  have : e53 = eU + 1:=by decide
  rw [this,Nat.pow_succ,Nat.mul_comm]
theorem ord53_lt {m q : Nat} (hm : m < 9007199254740992) (hq : q ≤ 1074) : FloatKind.f64.format.order (F m q) 4845873199050653696 = some .lt:=by
  rw [← c53,F_order hm (by omega) (by omega) (by decide),cmp_lt]
  have h1:=pow_le (a:=q) (b:=eU) hq m
  have h2 : m * 2 ^ eU < 9007199254740992 * 2 ^ eU:=Nat.mul_lt_mul_of_pos_right hm (Nat.two_pow_pos _)
  rw [p53]
  omega
theorem ord53_ge {m q : Nat} (hm : m < 9007199254740992) (h0 : 4503599627370496 ≤ m) (hq : 1075 ≤ q) (hq2 : q ≤ 2045) :
    FloatKind.f64.format.order (F m q) 4845873199050653696 = some .gt ∨ FloatKind.f64.format.order (F m q) 4845873199050653696 = some .eq:=by
  rw [← c53,F_order hm hq2 (by omega) (by decide)]
  have h1:=pow_le (a:=e53) (b:=q) hq m
  have h2 : 4503599627370496 * 2 ^ e53 ≤ m * 2 ^ e53:=Nat.mul_le_mul_right _ h0
  by_cases e : m * 2 ^ q = 4503599627370496 * 2 ^ e53
  · right;rw [cmp_eq (by rw [e])]
  · left;rw [cmp_gt (by omega)]
theorem ord52_lt {m q : Nat} (hm : m < 9007199254740992) (hq : q ≤ 1073) : FloatKind.f64.format.order (F m q) 4841369599423283200 = some .lt:=by
  have hd : eU = 1073 + 1:=by decide
  rw [← c52,F_order hm (by omega) (by omega) (by decide),cmp_lt]
  obtain ⟨e,he⟩ : ∃ e,e = 1073:=⟨_,rfl⟩
  rw [← he] at hd hq
  have h1:=pow_le (a:=q) (b:=e) hq m
  have h2 : m * 2 ^ e < 9007199254740992 * 2 ^ e:=Nat.mul_lt_mul_of_pos_right hm (Nat.two_pow_pos _)
  rw [hd,Nat.pow_succ,Nat.mul_comm (2 ^ e) 2]
  omega
theorem ord52_sub {m : Nat} (hm : m < 4503599627370496) : FloatKind.f64.format.order (F m eU) 4841369599423283200 = some .lt:=by
  rw [← c52,F_order (by omega) (by decide) (by omega) (by decide),cmp_lt]
  have h2 : m * 2 ^ eU < 4503599627370496 * 2 ^ eU:=Nat.mul_lt_mul_of_pos_right hm (Nat.two_pow_pos _)
  omega
theorem ord52_ge {m : Nat} (hm : m < 9007199254740992) (h0 : 4503599627370496 ≤ m) : FloatKind.f64.format.order (F m eU) 4841369599423283200 = some .gt ∨ FloatKind.f64.format.order (F m eU) 4841369599423283200 = some .eq:=by
  rw [← c52,F_order hm (by decide) (by omega) (by decide)]
  have h2 : 4503599627370496 * 2 ^ eU ≤ m * 2 ^ eU:=Nat.mul_le_mul_right _ h0
  by_cases e : m * 2 ^ eU = 4503599627370496 * 2 ^ eU
  · right;rw [cmp_eq (by rw [e])]
  · left;rw [cmp_gt (by omega)]
end Go.Proofs.YtnmeemjoodoalaaGreatDoor.Flt
