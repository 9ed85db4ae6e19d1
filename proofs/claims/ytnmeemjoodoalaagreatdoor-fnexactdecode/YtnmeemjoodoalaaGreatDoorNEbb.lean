import Derived.Test.YtnmeemjoodoalaaGreatDoorNFlz
import Derived.Test.YtnmeemjoodoalaaGreatDoorNEag
import Derived.Test.YtnmeemjoodoalaaGreatDoorNQka
import Derived.Test.YtnmeemjoodoalaaGreatDoorNFly
import Derived.Laws.StructEq
set_option maxHeartbeats 8000000
namespace Go.Proofs.YtnmeemjoodoalaaGreatDoor.Fo
open Go.ChangeShapes Go.WideShapes Go.ChangeAt Go.RowKit
set_option linter.unusedVariables false
set_option maxRecDepth 100000
theorem unary_negf' (k : FloatKind) (b : Nat) : Op.unary .neg (.float k b) = pure (.float k (Op.negFloat k b)):=rfl
attribute [local go_sem] unary_negf'
theorem mul_run {x y r : Nat} (h : floatBits .mul .f64 x y = some r) (w : World) : (binOp .mul 90 (.float .f64 x) (.float .f64 y)).run Tryz.prog w = .ok (.float .f64 r) w :=
  run_float_arith w .mul 90 .f64 _ _ _ h
theorem quo_run' {x r : Nat} (h : floatBits .quo .f64 4607182418800017408 x = some r) (w : World) : (binOp .quo 90 (.float .f64 4607182418800017408) (.float .f64 x)).run Tryz.prog w = .ok (.float .f64 r) w :=
  run_float_arith w .quo 90 .f64 _ _ _ h
theorem conv_u64 {x : Nat} {z : Int} (h : floatToIntVal .f64 x .u64 = some z) (w : World) : (convert 90 84 (.float .f64 x)).run Tryz.prog w = .ok (.int .u64 z) w :=
  run_convert_float_int w 90 84 .f64 .u64 x z (by kernel_rfl) Tryz.underlying84 h
theorem or_sum (i a b : Nat) (hb : b < 2 ^ i) (h : 2 ^ i * a + b < 18446744073709551616) : bits .or .u64 ((2 ^ i * a : Nat) : Int) (b : Int) = ((2 ^ i * a + b : Nat) : Int):=by
  rw [Go.u64_or_nat _ _ (by omega) (by omega),Nat.two_pow_add_eq_or_of_lt hb a]
theorem lb_z (w : World) : Calls Tryz.prog 100 #[.float .f64 0] w fun e w'=>e = .returned (.int .u64 0) ∧ Kb 0 w w':=by
  have h1 : FloatKind.f64.format.order 0 0 = some .eq:=by decide
  have h2:=quo_run' (x:=0) (r:=9218868437227405312) (by decide)
  have h3 : FloatKind.f64.format.order 9218868437227405312 0 = some .gt:=by decide
  go_enter Tryz.func100,Tryz.ntmps100
  go_wp2_with fail
  go_ret
  exact ⟨by first | rfl | decide,Kb.refl _ _⟩
theorem lb_nz (w : World) : Calls Tryz.prog 100 #[.float .f64 9223372036854775808] w fun e w'=>e = .returned (.int .u64 9223372036854775808) ∧ Kb 0 w w':=by
  have h1 : FloatKind.f64.format.order 9223372036854775808 0 = some .eq:=by decide
  have h2:=quo_run' (x:=9223372036854775808) (r:=18442240474082181120) (by decide)
  have h3 : FloatKind.f64.format.order 18442240474082181120 0 = some .lt:=by decide
  have h4 : Op.negFloat .f64 9223372036854775808 = 0:=by decide
  have h5 : FloatKind.f64.format.order 0 0 = some .eq:=by decide
  go_enter Tryz.func100,Tryz.ntmps100
  go_wp2_with fail
  go_ret
  exact ⟨by first | rfl | decide,Kb.refl _ _⟩
theorem lb_i (w : World) : Calls Tryz.prog 100 #[.float .f64 9218868437227405312] w fun e w'=>e = .returned (.int .u64 9218868437227405312) ∧ Kb 0 w w':=by
  have h1 : FloatKind.f64.format.order 9218868437227405312 0 = some .gt:=by decide
  have h2:=fun w=>mul_run (x:=9218868437227405312) (y:=4602678819172646912) (r:=9218868437227405312) (by decide) w
  have h6 : FloatKind.f64.format.order 9218868437227405312 9218868437227405312 = some .eq:=by decide
  have hor : bits .or .u64 0 9218868437227405312 = 9218868437227405312:=by decide
  go_enter Tryz.func100,Tryz.ntmps100
  go_wp2_with fail
  go_ret
  exact ⟨by first | rfl | decide,Kb.refl _ _⟩
theorem lb_ni (w : World) : Calls Tryz.prog 100 #[.float .f64 18442240474082181120] w fun e w'=>e = .returned (.int .u64 18442240474082181120) ∧ Kb 0 w w':=by
  have h1 : FloatKind.f64.format.order 18442240474082181120 0 = some .lt:=by decide
  have h4 : Op.negFloat .f64 18442240474082181120 = 9218868437227405312:=by decide
  have h5 : FloatKind.f64.format.order 9218868437227405312 0 = some .gt:=by decide
  have h6 : FloatKind.f64.format.order 9218868437227405312 9218868437227405312 = some .eq:=by decide
  have h2:=fun w=>mul_run (x:=9218868437227405312) (y:=4602678819172646912) (r:=9218868437227405312) (by decide) w
  have hor : bits .or .u64 9223372036854775808 9218868437227405312 = 18442240474082181120:=by decide
  go_enter Tryz.func100,Tryz.ntmps100
  go_wp2_with fail
  go_ret
  exact ⟨by first | rfl | decide,Kb.refl _ _⟩
theorem lb_false (m k : Nat) (hc : Flt.Canon m k) (hm : m ≠ 0) (w : World) : Calls Tryz.prog 100 #[.float .f64 (Ieee.double.word false (k * 4503599627370496 + m))] w fun e w'=>e = .returned (.int .u64 ((0 + (k * 4503599627370496 + m) : Nat) : Int)) ∧ Kb 0 w w':=by
  obtain ⟨Z,hZ⟩ : ∃ Z : Int,Z = ((0 + (k * 4503599627370496 + m) : Nat) : Int):=⟨_,rfl⟩
  rw [← hZ]
  have HZ : Hid (Z = ((0 + (k * 4503599627370496 + m) : Nat) : Int)):=hZ
  clear hZ
  have hlt:=hc.lt
  have hk:=hc.le
  have hlow:=hc.low
  have hzero:=Flt.ord_zero false hc hm
  simp only [Bool.false_eq_true,if_false] at hzero
  have hF:=Flt.F_word hc
  have hng:=Flt.neg_word false (k * 4503599627370496 + m) (by have:=hc.rung;omega)
  simp only [Bool.not_false] at hng
  have hzF:=Flt.ord_zero false hc hm
  simp only [Bool.false_eq_true,if_false] at hzF
  rw [← hF] at hzF
  rw [← hF] at hzero ⊢
  obtain ⟨r,hr1,hr2⟩:=Flt.F_halve (q:=k) hm hlt hk
  have hmr:=fun w=>mul_run hr1 w
  have HA : Hid (m < 9007199254740992 ∧ k ≤ 2045 ∧ m ≠ 0 ∧ (4503599627370496 ≤ m ∨ k = 0)):=(⟨hlt,hk,hm,hlow⟩ : _ ∧ _)
  clear hng
  skip
  clear hr1 hF hc hlt hk hm hlow
  go_enter Tryz.func100,Tryz.ntmps100
  go_wp2_with fail
  clear hr2 hmr hzero hzF
  go_loopw [0,4] (fun s0 s4 wr=>∃ q : Nat,s0 = .float .f64 (Flt.F m q) ∧ s4 = .int .i64 ((k : Int) - q) ∧ q ≤ k ∧ (q = k ∨ 1074 ≤ q) ∧ w = wr) (fun _ s4 _=>3000 - (intOf s4).toNat)
  case atStart=>exact ⟨k,rfl,by simp,Nat.le_refl _,.inl rfl,rfl⟩
  case round =>
    obtain ⟨q,rfl,rfl,hqk,hq4,rfl⟩:=hrel
    obtain ⟨hlt,hk,hm,hlow⟩:=(show _ ∧ _ ∧ _ ∧ _ from HA)
    by_cases g : 1075 ≤ q
    · obtain ⟨p,rfl⟩ : ∃ p,q = p + 1:=⟨q - 1,by omega⟩
      have hmul:=fun w=>mul_run (Flt.F_half (m:=m) (q:=p) hlt (by omega)) w
      have hwr : wrap64 ((k : Int) - ((p + 1 : Nat) : Int) + 1) = (k : Int) - p:=by unfold wrap64;omega
      rcases Flt.ord53_ge hlt (show 4503599627370496 ≤ m by omega) g (by omega) with ho | ho
      · clear hlow hm
        go_wp2_with fail
        go_roundw
        case rel=>exact ⟨p,rfl,by first | rfl | (congr 1;omega) | (simp;omega),by omega,by omega,by first | trivial | rfl⟩
        case measure=>simp [intOf];omega
      · clear hlow hm
        go_wp2_with fail
        go_roundw
        case rel=>exact ⟨p,rfl,by first | rfl | (congr 1;omega) | (simp;omega),by omega,by omega,by first | trivial | rfl⟩
        case measure=>simp [intOf];omega
    · have ho:=Flt.ord53_lt hlt (show q ≤ 1074 by omega)
      have HQ : Hid (q ≤ 1074 ∧ q ≤ k ∧ (q = k ∨ q = 1074)):=(⟨by omega,hqk,by omega⟩ : _ ∧ _)
      clear hlow hm hq4 hqk g
      go_wp2_with fail
      clear ho
      go_loopw [0,4] (fun s0 s4 wr=>∃ q : Nat,s0 = .float .f64 (Flt.F m q) ∧ s4 = .int .i64 ((k : Int) - q) ∧ q ≤ 1074 ∧ w = wr) (fun _ s4 _=>6000 - (3000 - intOf s4).toNat)
      case atStart=>exact ⟨q,rfl,rfl,HQ.1,by first | trivial | rfl⟩
      case round =>
        clear HQ
        obtain ⟨p,rfl,rfl,hp,rfl⟩:=hrel
        obtain ⟨_,_,hm,hlow⟩:=(show _ ∧ _ ∧ _ ∧ _ from HA)
        by_cases g : p < 1074
        · have ho:=Flt.ord52_lt hlt (show p ≤ 1073 by omega)
          have hmul:=fun w=>mul_run (Flt.F_two (m:=m) (q:=p) hlt (by omega)) w
          have hgt : (-1074 : Int) < (k : Int) - p:=by omega
          have hwr : wrap64 ((k : Int) - p - 1) = (k : Int) - p - 1:=by unfold wrap64;omega
          clear hlow hm
          go_wp2_with fail
          go_roundw
          case rel=>exact ⟨p + 1,rfl,by first | (congr 1;omega) | (simp;omega),by omega,by first | trivial | rfl⟩
          case measure=>simp [intOf];omega
        · obtain rfl : p = 1074:=by omega
          have hcv:=fun w=>conv_u64 (show floatToIntVal .f64 (Flt.F m 1074) .u64 = some (m : Int) from Flt.F_conv hlt) w
          by_cases hn : m < 4503599627370496
          · obtain rfl : k = 0:=by omega
            have ho : FloatKind.f64.format.order (Flt.F m 1074) 4841369599423283200 = some .lt:=Flt.ord52_sub hn
            have hgt : ¬ (-1074 : Int) < ((0 : Nat) : Int) - ((1074 : Nat) : Int):=by omega
            have hmI : (m : Int) < 4503599627370496:=by omega
            have hor : bits .or .u64 0 (m : Int) = ((0 + m : Nat) : Int):=by simpa using or_sum 63 0 m (by rw [show (2 ^ 63 : Nat) = 9223372036854775808 from rfl];omega) (by rw [show (2 ^ 63 : Nat) = 9223372036854775808 from rfl];omega)
            have hor2 : bits .or .u64 0 (m : Int) = Z:=by rw [hor,show Z = _ from HZ];congr 1;omega
            clear hlow hm hor HZ HA
            go_wp2_with fail
            go_ret
            exact ⟨rfl,Kb.refl _ _⟩
          · have hmI : ¬ (m : Int) < 4503599627370496:=by omega
            have hwr : wrap64 ((k : Int) - ((1074 : Nat) : Int) + 1075) = (k : Int) + 1:=by unfold wrap64;omega
            have hw75 : (k : Int) - 1074 + 1075 = (k : Int) + 1:=by omega
            have hcu : IntKind.u64.wrap ((k : Int) + 1) = (k : Int) + 1:=by rw [wrap_u64];omega
            have hsh : IntKind.u64.wrap (((k : Int) + 1) * 4503599627370496) = ((k : Int) + 1) * 4503599627370496:=by rw [wrap_u64];omega
            have hsb : IntKind.u64.wrap ((m : Int) - 4503599627370496) = (m : Int) - 4503599627370496:=by rw [wrap_u64];omega
            obtain ⟨A,hA⟩ : ∃ A : Nat,A = 0 + (k + 1) * 4503599627370496:=⟨_,rfl⟩
            have hor1 : bits .or .u64 0 (((k : Int) + 1) * 4503599627370496) = (A : Int):=by
              have:=or_sum 63 0 ((k + 1) * 4503599627370496) (by rw [show (2 ^ 63 : Nat) = 9223372036854775808 from rfl];omega) (by rw [show (2 ^ 63 : Nat) = 9223372036854775808 from rfl];omega)
              rw [hA]
              simpa using this
            have hor2 : bits .or .u64 (A : Int) ((m : Int) - 4503599627370496) = ((0 + (k * 4503599627370496 + m) : Nat) : Int):=by
              rw [show (m : Int) - 4503599627370496 = ((m - 4503599627370496 : Nat) : Int) by omega,show A = 2 ^ 52 * (0 + (k + 1)) by rw [hA,show (2 ^ 52 : Nat) = 4503599627370496 from rfl];omega,or_sum 52 _ _ (by rw [show (2 ^ 52 : Nat) = 4503599627370496 from rfl];omega) (by rw [show (2 ^ 52 : Nat) = 4503599627370496 from rfl];omega),show (2 ^ 52 : Nat) = 4503599627370496 from rfl]
              have hn2 : 4503599627370496 ≤ m:=by omega
              obtain ⟨mm,hmm⟩ : ∃ mm,m = 4503599627370496 + mm:=⟨m - 4503599627370496,by omega⟩
              subst hmm
              rw [Nat.add_sub_cancel_left]
              refine congrArg Int.ofNat ?_
              omega
            obtain ⟨AI,hAI⟩ : ∃ AI : Int,AI = (A : Int):=⟨_,rfl⟩
            rw [← hAI] at hor1 hor2
            obtain ⟨MI,hMI⟩ : ∃ MI : Int,MI = (m : Int) - 4503599627370496:=⟨_,rfl⟩
            rw [← hMI] at hsb hor2
            have hsb2 : (m : Int) - 4503599627370496 = MI:=hMI.symm
            obtain ⟨SI,hSI⟩ : ∃ SI : Int,SI = ((k : Int) + 1) * 4503599627370496:=⟨_,rfl⟩
            rw [← hSI] at hsh hor1
            have hsh2 : ((k : Int) + 1) * 4503599627370496 = SI:=hSI.symm
            rw [← (show Z = _ from HZ)] at hor2
            have hsb3 : IntKind.u64.wrap MI = MI:=by rw [wrap_u64,hMI];omega
            have hsh3 : IntKind.u64.wrap SI = SI:=by rw [wrap_u64,hSI];omega
            rcases Flt.ord52_ge hlt (show 4503599627370496 ≤ m by omega) with ho | ho
            · replace ho : FloatKind.f64.format.order (Flt.F m 1074) 4841369599423283200 = some .gt:=ho
              clear hlow hm HA hA hAI hMI hSI HZ hn
              go_wp2_with fail
              go_ret
              exact ⟨rfl,Kb.refl _ _⟩
            · replace ho : FloatKind.f64.format.order (Flt.F m 1074) 4841369599423283200 = some .eq:=ho
              clear hlow hm HA hA hAI hMI hSI HZ hn
              go_wp2_with fail
              go_ret
              exact ⟨rfl,Kb.refl _ _⟩
attribute [local go_sem] unary_negf'
theorem lb_true (m k : Nat) (hc : Flt.Canon m k) (hm : m ≠ 0) (w : World) : Calls Tryz.prog 100 #[.float .f64 (Ieee.double.word true (k * 4503599627370496 + m))] w fun e w'=>e = .returned (.int .u64 ((9223372036854775808 + (k * 4503599627370496 + m) : Nat) : Int)) ∧ Kb 0 w w':=by
  obtain ⟨Z,hZ⟩ : ∃ Z : Int,Z = ((9223372036854775808 + (k * 4503599627370496 + m) : Nat) : Int):=⟨_,rfl⟩
  rw [← hZ]
  have HZ : Hid (Z = ((9223372036854775808 + (k * 4503599627370496 + m) : Nat) : Int)):=hZ
  clear hZ
  have hlt:=hc.lt
  have hk:=hc.le
  have hlow:=hc.low
  have hzero:=Flt.ord_zero true hc hm
  simp only [if_true] at hzero
  have hF:=Flt.F_word hc
  have hng:=Flt.neg_word true (k * 4503599627370496 + m) (by have:=hc.rung;omega)
  simp only [Bool.not_true] at hng
  have hzF:=Flt.ord_zero false hc hm
  simp only [Bool.false_eq_true,if_false] at hzF
  rw [← hF] at hzF
  rw [← hF] at hng
  obtain ⟨r,hr1,hr2⟩:=Flt.F_halve (q:=k) hm hlt hk
  have hmr:=fun w=>mul_run hr1 w
  have HA : Hid (m < 9007199254740992 ∧ k ≤ 2045 ∧ m ≠ 0 ∧ (4503599627370496 ≤ m ∨ k = 0)):=(⟨hlt,hk,hm,hlow⟩ : _ ∧ _)
  obtain ⟨x,hx⟩ : ∃ x,x = Ieee.double.word true (k * 4503599627370496 + m):=⟨_,rfl⟩
  rw [← hx] at hzero hng ⊢
  clear hr1 hF hc hlt hk hm hlow hx
  go_enter Tryz.func100,Tryz.ntmps100
  go_wp2_with fail
  clear hr2 hmr hzero hzF hng
  go_loopw [0,4] (fun s0 s4 wr=>∃ q : Nat,s0 = .float .f64 (Flt.F m q) ∧ s4 = .int .i64 ((k : Int) - q) ∧ q ≤ k ∧ (q = k ∨ 1074 ≤ q) ∧ w = wr) (fun _ s4 _=>3000 - (intOf s4).toNat)
  case atStart=>exact ⟨k,rfl,by simp,Nat.le_refl _,.inl rfl,rfl⟩
  case round =>
    obtain ⟨q,rfl,rfl,hqk,hq4,rfl⟩:=hrel
    obtain ⟨hlt,hk,hm,hlow⟩:=(show _ ∧ _ ∧ _ ∧ _ from HA)
    by_cases g : 1075 ≤ q
    · obtain ⟨p,rfl⟩ : ∃ p,q = p + 1:=⟨q - 1,by omega⟩
      have hmul:=fun w=>mul_run (Flt.F_half (m:=m) (q:=p) hlt (by omega)) w
      have hwr : wrap64 ((k : Int) - ((p + 1 : Nat) : Int) + 1) = (k : Int) - p:=by unfold wrap64;omega
      rcases Flt.ord53_ge hlt (show 4503599627370496 ≤ m by omega) g (by omega) with ho | ho
      · clear hlow hm
        go_wp2_with fail
        go_roundw
        case rel=>exact ⟨p,rfl,by first | rfl | (congr 1;omega) | (simp;omega),by omega,by omega,by first | trivial | rfl⟩
        case measure=>simp [intOf];omega
      · clear hlow hm
        go_wp2_with fail
        go_roundw
        case rel=>exact ⟨p,rfl,by first | rfl | (congr 1;omega) | (simp;omega),by omega,by omega,by first | trivial | rfl⟩
        case measure=>simp [intOf];omega
    · have ho:=Flt.ord53_lt hlt (show q ≤ 1074 by omega)
      have HQ : Hid (q ≤ 1074 ∧ q ≤ k ∧ (q = k ∨ q = 1074)):=(⟨by omega,hqk,by omega⟩ : _ ∧ _)
      clear hlow hm hq4 hqk g
      go_wp2_with fail
      clear ho
      go_loopw [0,4] (fun s0 s4 wr=>∃ q : Nat,s0 = .float .f64 (Flt.F m q) ∧ s4 = .int .i64 ((k : Int) - q) ∧ q ≤ 1074 ∧ w = wr) (fun _ s4 _=>6000 - (3000 - intOf s4).toNat)
      case atStart=>exact ⟨q,rfl,rfl,HQ.1,by first | trivial | rfl⟩
      case round =>
        clear HQ
        obtain ⟨p,rfl,rfl,hp,rfl⟩:=hrel
        obtain ⟨_,_,hm,hlow⟩:=(show _ ∧ _ ∧ _ ∧ _ from HA)
        by_cases g : p < 1074
        · have ho:=Flt.ord52_lt hlt (show p ≤ 1073 by omega)
          have hmul:=fun w=>mul_run (Flt.F_two (m:=m) (q:=p) hlt (by omega)) w
          have hgt : (-1074 : Int) < (k : Int) - p:=by omega
          have hwr : wrap64 ((k : Int) - p - 1) = (k : Int) - p - 1:=by unfold wrap64;omega
          clear hlow hm
          go_wp2_with fail
          go_roundw
          case rel=>exact ⟨p + 1,rfl,by first | (congr 1;omega) | (simp;omega),by omega,by first | trivial | rfl⟩
          case measure=>simp [intOf];omega
        · obtain rfl : p = 1074:=by omega
          have hcv:=fun w=>conv_u64 (show floatToIntVal .f64 (Flt.F m 1074) .u64 = some (m : Int) from Flt.F_conv hlt) w
          by_cases hn : m < 4503599627370496
          · obtain rfl : k = 0:=by omega
            have ho : FloatKind.f64.format.order (Flt.F m 1074) 4841369599423283200 = some .lt:=Flt.ord52_sub hn
            have hgt : ¬ (-1074 : Int) < ((0 : Nat) : Int) - ((1074 : Nat) : Int):=by omega
            have hmI : (m : Int) < 4503599627370496:=by omega
            have hor : bits .or .u64 9223372036854775808 (m : Int) = ((9223372036854775808 + m : Nat) : Int):=by simpa using or_sum 63 1 m (by rw [show (2 ^ 63 : Nat) = 9223372036854775808 from rfl];omega) (by rw [show (2 ^ 63 : Nat) = 9223372036854775808 from rfl];omega)
            have hor2 : bits .or .u64 9223372036854775808 (m : Int) = Z:=by rw [hor,show Z = _ from HZ];congr 1;omega
            clear hlow hm hor HZ HA
            go_wp2_with fail
            go_ret
            exact ⟨rfl,Kb.refl _ _⟩
          · have hmI : ¬ (m : Int) < 4503599627370496:=by omega
            have hwr : wrap64 ((k : Int) - ((1074 : Nat) : Int) + 1075) = (k : Int) + 1:=by unfold wrap64;omega
            have hw75 : (k : Int) - 1074 + 1075 = (k : Int) + 1:=by omega
            have hcu : IntKind.u64.wrap ((k : Int) + 1) = (k : Int) + 1:=by rw [wrap_u64];omega
            have hsh : IntKind.u64.wrap (((k : Int) + 1) * 4503599627370496) = ((k : Int) + 1) * 4503599627370496:=by rw [wrap_u64];omega
            have hsb : IntKind.u64.wrap ((m : Int) - 4503599627370496) = (m : Int) - 4503599627370496:=by rw [wrap_u64];omega
            obtain ⟨A,hA⟩ : ∃ A : Nat,A = 9223372036854775808 + (k + 1) * 4503599627370496:=⟨_,rfl⟩
            have hor1 : bits .or .u64 9223372036854775808 (((k : Int) + 1) * 4503599627370496) = (A : Int):=by
              have:=or_sum 63 1 ((k + 1) * 4503599627370496) (by rw [show (2 ^ 63 : Nat) = 9223372036854775808 from rfl];omega) (by rw [show (2 ^ 63 : Nat) = 9223372036854775808 from rfl];omega)
              rw [hA]
              simpa using this
            have hor2 : bits .or .u64 (A : Int) ((m : Int) - 4503599627370496) = ((9223372036854775808 + (k * 4503599627370496 + m) : Nat) : Int):=by
              rw [show (m : Int) - 4503599627370496 = ((m - 4503599627370496 : Nat) : Int) by omega,show A = 2 ^ 52 * (2048 + (k + 1)) by rw [hA,show (2 ^ 52 : Nat) = 4503599627370496 from rfl];omega,or_sum 52 _ _ (by rw [show (2 ^ 52 : Nat) = 4503599627370496 from rfl];omega) (by rw [show (2 ^ 52 : Nat) = 4503599627370496 from rfl];omega),show (2 ^ 52 : Nat) = 4503599627370496 from rfl]
              have hn2 : 4503599627370496 ≤ m:=by omega
              obtain ⟨mm,hmm⟩ : ∃ mm,m = 4503599627370496 + mm:=⟨m - 4503599627370496,by omega⟩
              subst hmm
              rw [Nat.add_sub_cancel_left]
              refine congrArg Int.ofNat ?_
              omega
            obtain ⟨AI,hAI⟩ : ∃ AI : Int,AI = (A : Int):=⟨_,rfl⟩
            rw [← hAI] at hor1 hor2
            obtain ⟨MI,hMI⟩ : ∃ MI : Int,MI = (m : Int) - 4503599627370496:=⟨_,rfl⟩
            rw [← hMI] at hsb hor2
            have hsb2 : (m : Int) - 4503599627370496 = MI:=hMI.symm
            obtain ⟨SI,hSI⟩ : ∃ SI : Int,SI = ((k : Int) + 1) * 4503599627370496:=⟨_,rfl⟩
            rw [← hSI] at hsh hor1
            have hsh2 : ((k : Int) + 1) * 4503599627370496 = SI:=hSI.symm
            rw [← (show Z = _ from HZ)] at hor2
            have hsb3 : IntKind.u64.wrap MI = MI:=by rw [wrap_u64,hMI];omega
            have hsh3 : IntKind.u64.wrap SI = SI:=by rw [wrap_u64,hSI];omega
            rcases Flt.ord52_ge hlt (show 4503599627370496 ≤ m by omega) with ho | ho
            · replace ho : FloatKind.f64.format.order (Flt.F m 1074) 4841369599423283200 = some .gt:=ho
              clear hlow hm HA hA hAI hMI hSI HZ hn
              go_wp2_with fail
              go_ret
              exact ⟨rfl,Kb.refl _ _⟩
            · replace ho : FloatKind.f64.format.order (Flt.F m 1074) 4841369599423283200 = some .eq:=ho
              clear hlow hm HA hA hAI hMI hSI HZ hn
              go_wp2_with fail
              go_ret
              exact ⟨rfl,Kb.refl _ _⟩
theorem bitsc : BitsC:=by
  intro g hg hn w
  rcases Flt.read_cases g hg with ⟨s,t,hr⟩ | ⟨s,hr,hw⟩ | ⟨s,m,k,hc,hr,hw⟩
  · have:=Flt.order_nan ⟨s,t,hr⟩
    have h2 : FloatKind.f64.format.order g g = none:=this
    rw [h2] at hn
    cases hn
  · subst hw
    cases s
    · exact lb_i w
    · exact lb_ni w
  · have hr2:=hc.rung
    have hword : ∀ s,Ieee.double.word s (k * 4503599627370496 + m) = (if s then 9223372036854775808 else 0) + (k * 4503599627370496 + m):=fun s=>by
      unfold Ieee.Format.word
      rw [Flt.c_sw]
      cases s <;> simp
    by_cases hm : m = 0
    · subst hm
      have hk : k = 0:=by have:=hc.low;omega
      subst hk
      subst hw
      cases s
      · exact lb_z w
      · exact lb_nz w
    · cases s
      · have:=lb_false m k hc hm w
        rw [← hw] at this
        have e:=hword false
        rw [← hw] at e
        simp only [Bool.false_eq_true,if_false] at e
        rw [← e] at this
        exact this
      · have:=lb_true m k hc hm w
        rw [← hw] at this
        have e:=hword true
        rw [← hw] at e
        simp only [if_true] at e
        rw [← e] at this
        exact this
end Go.Proofs.YtnmeemjoodoalaaGreatDoor.Fo
