import Derived.Test.YtnmeemjoodoalaaGreatDoorNExe
import Derived.Test.YtnmeemjoodoalaaGreatDoorNEbb
import Derived.Test.YtnmeemjoodoalaaGreatDoorNEfa
import Derived.Deep.RegionHeldLaw
import Derived.Laws.Cover3
set_option maxHeartbeats 8000000
namespace Go.Proofs.YtnmeemjoodoalaaGreatDoor.Fo
open Go.ChangeShapes Go.WideShapes Go.ChangeAt Go.RowKit
set_option linter.unusedVariables false
set_option maxRecDepth 100000
attribute [local go_sem] unary_negf'
theorem of_int (m : Nat) : floatOfInt .f64 (m : Int) = Flt.F m 1074:=by
  show Ieee.double.nearest (decide ((m : Int) < 0)) (m : Int).natAbs 0 = Ieee.double.nearest false m (((1074 : Nat) : Int) - 1074)
  have : decide ((m : Int) < 0) = false:=by simp
  rw [this]
  rfl
theorem fl_parts {x : Nat} (hx : x < 18446744073709551616) : ∃ (s : Bool) (E M : Nat), E ≤ 2047 ∧ M < 4503599627370496 ∧ x = Ieee.double.word s (E * 4503599627370496 + M) ∧
    (x : Int) / 9223372036854775808 = (if s then 1 else 0) ∧ bits .and .u64 ((x : Int) / 4503599627370496) 2047 = (E : Int) ∧ bits .and .u64 (x : Int) 4503599627370495 = (M : Int):=by
  refine ⟨(x / 9223372036854775808 == 1),x / 4503599627370496 % 2048,x % 4503599627370496,by omega,by omega,?_,?_,?_,?_⟩
  · unfold Ieee.Format.word
    rw [Flt.c_sw]
    by_cases h : 9223372036854775808 ≤ x
    · have : x / 9223372036854775808 = 1:=by omega
      simp [this];omega
    · have : x / 9223372036854775808 = 0:=by omega
      simp [this];omega
  · by_cases h : 9223372036854775808 ≤ x
    · have : x / 9223372036854775808 = 1:=by omega
      simp [this];omega
    · have : x / 9223372036854775808 = 0:=by omega
      simp [this];omega
  · have e : ((x : Int) / 4503599627370496) = ((x / 4503599627370496 : Nat) : Int):=by omega
    have e2 : (2047 : Int) = ((2047 : Nat) : Int):=rfl
    rw [e,e2,Go.u64_and_nat _ _ (by omega) (by omega)]
    exact congrArg _ (Nat.and_two_pow_sub_one_eq_mod (x / 4503599627370496) 11)
  · have e2 : (4503599627370495 : Int) = ((4503599627370495 : Nat) : Int):=rfl
    rw [e2,Go.u64_and_nat _ _ (by omega) (by omega)]
    exact congrArg _ (Nat.and_two_pow_sub_one_eq_mod x 52)
theorem or52 (M : Nat) (h : M < 4503599627370496) : bits .or .u64 (M : Int) 4503599627370496 = ((M + 4503599627370496 : Nat) : Int):=by
  have e:=Go.u64_or_nat M 4503599627370496 (by omega) (by omega)
  have e2 : ((4503599627370496 : Nat) : Int) = 4503599627370496:=rfl
  rw [e2] at e
  have h2:=Nat.two_pow_add_eq_or_of_lt (i:=52) (b:=M) (by omega) 1
  have e3 : (2 ^ 52 * 1 : Nat) = 4503599627370496:=by decide
  rw [e3] at h2
  rw [e,Nat.or_comm,← h2,Nat.add_comm]
theorem nan_draw (w : World) : ∃ y,(binOp .quo 90 (.float .f64 0) (.float .f64 0)).run Tryz.prog w = .ok (.float .f64 y) w.drew ∧ y < 18446744073709551616:=by
  have hd : FloatKind.f64.format.div 0 0 = none:=by decide
  have e : ∃ t : Nat,(binOp .quo 90 (.float .f64 0) (.float .f64 0)).run Tryz.prog w = .ok (.float .f64 ((t % 2) * 2 ^ 63 + 0x7ff0000000000000 + 1 + (t / 2) % (2 ^ 52 - 1))) w.drew:=by
    refine ⟨w.tape w.drawn (.nanBits .f64 0 0),?_⟩
    simp [binOp,Op.floatArith,hd,Question.forced,Question.cut]
  obtain ⟨t,ht⟩:=e
  refine ⟨_,ht,?_⟩
  have h1 : (t / 2) % (2 ^ 52 - 1) < 2 ^ 52 - 1:=Nat.mod_lt _ (by decide)
  have h2 : t % 2 < 2:=Nat.mod_lt _ (by decide)
  omega
theorem neg_lt {x : Nat} (h : x < 18446744073709551616) : Op.negFloat .f64 x < 18446744073709551616:=by
  obtain ⟨s,E,M,h1,h2,h3,_⟩:=fl_parts h
  rw [h3,Flt.neg_word s _ (by omega)]
  unfold Ieee.Format.word
  rw [Flt.c_sw]
  cases s <;> simp <;> omega
theorem kb_drew (b : Nat) (w : World) : Kb b w w.drew:=⟨rfl,rfl,Nat.le_refl _,fun _ _ _=>rfl⟩
theorem fl_top {u : Nat} {s : Bool} {M : Nat} (hu : u < 18446744073709551616) (hM : M < 4503599627370496) (hw : u = Ieee.double.word s (2047 * 4503599627370496 + M)) (hs : (u : Int) / 9223372036854775808 = (if s then 1 else 0)) (hE : bits .and .u64 ((u : Int) / 4503599627370496) 2047 = 2047) (hm : bits .and .u64 (u : Int) 4503599627370495 = (M : Int)) (W : World) :
    Calls Tryz.prog 122 #[.int .u64 (u : Int)] W fun e w'=>∃ f : Nat,e = .returned (.float .f64 f) ∧ f < 18446744073709551616 ∧ Kb 0 W w' ∧ (FloatKind.f64.format.order u u = some .eq → f = u):=by
  have hi:=of_int M
  have hq:=quo_run' (x:=0) (r:=9218868437227405312) (by decide)
  have huI : (u : Int) < 18446744073709551616:=by omega
  by_cases h0 : M = 0
  · subst h0
    have hn : Op.negFloat .f64 9218868437227405312 = Ieee.double.word true 9218868437227405312:=Flt.neg_word false 9218868437227405312 (by omega)
    have HW : Hid (u = Ieee.double.word s 9218868437227405312 ∧ u < 18446744073709551616):=(⟨hw,hu⟩ : _ ∧ _)
    clear hw hu hM
    cases s
    · have hs' : (u : Int) / 9223372036854775808 = 0:=hs
      clear hs
      go_enter Tryz.func122,Tryz.ntmps122
      go_wp2_with fail
      go_ret
      exact ⟨_,rfl,by decide,Kb.refl _ _,fun _=>by rw [HW.1];rfl⟩
    · have hs' : (u : Int) / 9223372036854775808 = 1:=hs
      clear hs
      go_enter Tryz.func122,Tryz.ntmps122
      go_wp2_with fail
      go_ret
      exact ⟨_,rfl,by decide,Kb.refl _ _,fun _=>by rw [HW.1]⟩
  · obtain ⟨y,hy,hyl⟩:=nan_draw W
    have HN : Hid (FloatKind.f64.format.order u u = some .eq → False):=(fun e=>by
      obtain ⟨s',t,hr⟩:=Flt.nan_word s M h0 hM
      rw [show 9218868437227405312 + M = 2047 * 4503599627370496 + M by omega,← hw] at hr
      rw [Flt.f64_double,Flt.order_nan ⟨s',t,hr⟩] at e
      exact absurd e (by simp) : FloatKind.f64.format.order u u = some .eq → False)
    have hM0 : (((M : Nat) : Int) != 0) = true:=by simpa using h0
    have HNL : Hid (y < 18446744073709551616 ∧ Op.negFloat .f64 y < 18446744073709551616):=(⟨hyl,neg_lt hyl⟩ : _ ∧ _)
    obtain ⟨Y,hY⟩ : ∃ Y,Op.negFloat .f64 y = Y:=⟨_,rfl⟩
    clear hw hu h0 hyl hM
    cases s
    · have hs' : (u : Int) / 9223372036854775808 = 0:=hs
      clear hs hY
      go_enter Tryz.func122,Tryz.ntmps122
      go_upto_region 5 with fail
      clear hm hE hi
      go_upto_region 8 with fail
      go_wp2_with fail
      go_ret
      exact ⟨_,rfl,HNL.1,kb_drew _ _,fun e=>(HN e).elim⟩
    · have hs' : (u : Int) / 9223372036854775808 = 1:=hs
      clear hs
      go_enter Tryz.func122,Tryz.ntmps122
      go_upto_region 5 with fail
      clear hm hE hi
      go_upto_region 8 with fail
      go_wp2_with fail
      go_ret
      exact ⟨_,rfl,by rw [← hY];exact HNL.2,kb_drew _ _,fun e=>(HN e).elim⟩
theorem neg_pos (r : Nat) (h : r < 9223372036854775808) : Op.negFloat .f64 r = Ieee.double.word true r:=Flt.neg_word false r h
theorem fl_num {u : Nat} {s : Bool} {E M : Nat} (hu : u < 18446744073709551616) (hE0 : E ≤ 2046) (hM : M < 4503599627370496) (hw : u = Ieee.double.word s (E * 4503599627370496 + M)) (hs : (u : Int) / 9223372036854775808 = (if s then 1 else 0)) (hE : bits .and .u64 ((u : Int) / 4503599627370496) 2047 = (E : Int)) (hm : bits .and .u64 (u : Int) 4503599627370495 = (M : Int)) (W : World) :
    Calls Tryz.prog 122 #[.int .u64 (u : Int)] W fun e w'=>∃ f : Nat,e = .returned (.float .f64 f) ∧ f < 18446744073709551616 ∧ Kb 0 W w' ∧ (FloatKind.f64.format.order u u = some .eq → f = u):=by
  have hi:=of_int M
  have huI : (u : Int) < 18446744073709551616:=by omega
  have hEI : (E : Int) ≤ 2046:=by omega
  obtain ⟨m,e,hm2,he,hfw,hcs⟩ : ∃ m e : Nat,m < 9007199254740992 ∧ e ≤ 2045 ∧ Flt.F m e = E * 4503599627370496 + M ∧ ((E = 0 ∧ m = M ∧ e = E) ∨ (0 < E ∧ m = M + 4503599627370496 ∧ e + 1 = E)):=by
    by_cases h0 : E = 0
    · refine ⟨M,0,by omega,by omega,?_,.inl ⟨h0,rfl,h0.symm⟩⟩
      rw [Flt.F_word ⟨by omega,Or.inr rfl,by omega⟩,h0]
      rfl
    · refine ⟨M + 4503599627370496,E - 1,by omega,by omega,?_,.inr ⟨by omega,rfl,by omega⟩⟩
      rw [Flt.F_word ⟨by omega,Or.inl (by omega),by omega⟩]
      show (E - 1) * 4503599627370496 + (M + 4503599627370496) = _
      omega
  have hor:=or52 M hM
  have hi2:=of_int (M + 4503599627370496)
  have HW : Hid (u = Ieee.double.word s (Flt.F m e) ∧ u < 18446744073709551616 ∧ Flt.F m e < 9223372036854775808):=(⟨by rw [hfw];exact hw,hu,by rw [hfw];omega⟩ : _ ∧ _)
  have hn:=neg_pos (Flt.F m e) (by rw [hfw];omega)
  have heI : (e : Int) ≤ 2045:=by omega
  have hne : ((E : Int) == 2047) = false:=by simp;omega
  have HM : Hid (m < 9007199254740992):=hm2
  clear hw hu hfw hM hm2 hE0
  rcases hcs with ⟨hE1,rfl,rfl⟩ | ⟨hp,rfl,hp2⟩
  · have hE2 : ¬ (0 : Int) < (e : Int):=by omega
    have HE1 : Hid (e = 0):=hE1
    clear hE1
    go_enter Tryz.func122,Tryz.ntmps122
    go_upto_region 5 with fail
    clear hm hE hi2 hor huI
    obtain ⟨A0,hA0⟩ : ∃ A0,A0 = Flt.F m 1074:=⟨_,rfl⟩
    rw [← hA0]
    rw [← hA0] at hi
    have HA0 : Hid (A0 = Flt.F m 1074):=hA0
    clear hA0
    go_upto_region 9 with fail
    clear hne
    go_upto_region 12 with fail
    clear hi hE2
    go_wp2_with fail
    go_loopw [6,7] (fun s6 s7 wr=>W = wr ∧ ∃ q A : Nat,1074 ≤ q ∧ (q = 1074 ∨ q ≤ e) ∧ s6 = .float .f64 A ∧ A = Flt.F m q ∧ s7 = .int .i64 ((e : Int) - (q : Int))) (fun _ s7 _=>(intOf s7).toNat)
    case atStart=>exact ⟨rfl,1074,A0,by omega,by omega,rfl,HA0,rfl⟩
    case round =>
      obtain ⟨rfl,q,A,hq1,hq2,rfl,hA,rfl⟩:=hrel
      by_cases hq : q < e
      · exact absurd (show e = 0 from HE1) (by omega)
      · have hqI : ¬ (0 : Int) < (e : Int) - (q : Int):=by omega
        have HQ : Hid (1074 ≤ q ∧ (q = 1074 ∨ q = e)):=(⟨hq1,by omega⟩ : _ ∧ _)
        clear hq1 hq2 hq
        have HA : Hid (A = Flt.F m q):=hA
        clear hA
        go_wp2_with fail
        go_loopw [6,8] (fun s6 s8 wr=>W = wr ∧ ∃ (p A' : Nat) (z : Int),s6 = .float .f64 A' ∧ A' = Flt.F m p ∧ s8 = .int .i64 z ∧ Hid ((e < 1074 ∧ e ≤ p ∧ p ≤ 1074 ∧ z = (e : Int) - (p : Int)) ∨ (1074 ≤ e ∧ p = e ∧ z = (e : Int) - 1074))) (fun _ s8 _=>(-(intOf s8)).toNat)
        case atStart =>
          obtain ⟨r1,r2⟩:=(show _ ∧ _ from HQ)
          refine ⟨by first | rfl | trivial,q,A,(e : Int) - 1074,rfl,HA,by first | rfl | go_num,?_⟩
          show _ ∨ _
          by_cases h : e < 1074
          · exact .inl ⟨h,by omega,by omega,by omega⟩
          · exact .inr ⟨by omega,by omega,by omega⟩
        case round =>
          obtain ⟨rfl,p,A',z,rfl,hA',rfl,HP⟩:=hrel
          have hp:=(show _ ∨ _ from HP)
          clear HP
          by_cases hr : e < 1074 ∧ e < p
          · obtain ⟨h1, h2, h3, h4⟩ : e < 1074 ∧ e ≤ p ∧ p ≤ 1074 ∧ z = (e : Int) - (p : Int) := by
              rcases hp with hp | hp
              · exact hp
              · omega
            obtain ⟨r,rfl⟩ : ∃ r,p = r + 1:=⟨p - 1,by omega⟩
            obtain ⟨B,hB⟩ : ∃ B,B = Flt.F m r:=⟨_,rfl⟩
            have hmul:=mul_run (Flt.F_half (q:=r) HM (by omega))
            rw [← hA',← hB] at hmul
            have HBB : Hid (B = Flt.F m r):=hB
            have hlt : z < 0:=by omega
            have hlt2 : -1074 ≤ z:=by omega
            have HR : Hid (e < 1074 ∧ e ≤ r ∧ r ≤ 1074 ∧ z + 1 = (e : Int) - (r : Int)):=(⟨h1,by omega,by omega,by omega⟩ : _ ∧ _)
            clear hB hA' hn HA hp hr h1 h2 h3 h4
            go_wp2_with fail
            go_roundw
            case rel=>exact ⟨by first | rfl | trivial,r,B,z + 1,rfl,HBB,by first | rfl | go_num,(Or.inl HR : _ ∨ _)⟩
            case measure=>simp [intOf];omega
          · have hpe : p = e:=by omega
            have hz1 : ¬ z < 0:=by omega
            have hz2 : z ≤ 971:=by omega
            subst hpe
            rw [← hA'] at hn HW
            clear hA' hp HA hr
            cases s
            · have hs' : (u : Int) / 9223372036854775808 = 0:=hs
              clear hs hn
              go_wp2_with fail
              go_ret
              exact ⟨A',rfl,by have:=HW.2.2;omega,Kb.refl _ _,fun _=>by rw [HW.1];rfl⟩
            · have hs' : (u : Int) / 9223372036854775808 = 1:=hs
              clear hs
              obtain ⟨N,hN⟩ : ∃ N,N = Ieee.double.word true A':=⟨_,rfl⟩
              rw [← hN] at hn HW
              have HN : Hid (u = N ∧ u < 18446744073709551616):=(⟨HW.1,HW.2.1⟩ : _ ∧ _)
              clear hN
              go_wp2_with fail
              go_ret
              exact ⟨N,rfl,by rw [← HN.1];exact HN.2,Kb.refl _ _,fun _=>HN.1.symm⟩
  · have hE2 : (0 : Int) < (E : Int):=by omega
    have hsub : (E : Int) - 1 = (e : Int):=by omega
    go_enter Tryz.func122,Tryz.ntmps122
    go_upto_region 5 with fail
    clear hm hE huI hi
    obtain ⟨A0,hA0⟩ : ∃ A0,A0 = Flt.F (M + 4503599627370496) 1074:=⟨_,rfl⟩
    rw [← hA0,show ((M + 4503599627370496 : Nat) : Int) = (M : Int) + 4503599627370496 by omega] at hi2
    have HA0 : Hid (A0 = Flt.F (M + 4503599627370496) 1074):=hA0
    clear hA0
    obtain ⟨X0,hX0⟩ : ∃ X0,X0 = Flt.F M 1074:=⟨_,rfl⟩
    rw [← hX0]
    clear hX0
    go_upto_region 9 with fail
    clear hne
    go_upto_region 11 with fail
    clear hi2 hor
    go_upto_region 12 with fail
    clear hE2 hsub
    obtain ⟨m,hm⟩ : ∃ m,m = M + 4503599627370496:=⟨_,rfl⟩
    rw [← hm] at HA0 HW hn HM
    clear hm
    have he : e ≤ 2045:=he
    go_wp2_with fail
    go_loopw [6,7] (fun s6 s7 wr=>W = wr ∧ ∃ q A : Nat,1074 ≤ q ∧ (q = 1074 ∨ q ≤ e) ∧ s6 = .float .f64 A ∧ A = Flt.F m q ∧ s7 = .int .i64 ((e : Int) - (q : Int))) (fun _ s7 _=>(intOf s7).toNat)
    case atStart=>exact ⟨rfl,1074,A0,by omega,by omega,rfl,HA0,rfl⟩
    case round =>
      obtain ⟨rfl,q,A,hq1,hq2,rfl,hA,rfl⟩:=hrel
      by_cases hq : q < e
      · have hmul:=mul_run (Flt.F_two (q:=q) HM (by omega))
        have hqI : (0 : Int) < (e : Int) - (q : Int):=by omega
        have hq3 : (1074 : Int) ≤ (q : Int):=by omega
        obtain ⟨B,hB⟩ : ∃ B,B = Flt.F m (q + 1):=⟨_,rfl⟩
        rw [← hB,← hA] at hmul
        have HQ : Hid (1074 ≤ q ∧ q < e):=(⟨hq1,hq⟩ : _ ∧ _)
        clear hn hq1 hq2 hA hq
        have HBB : Hid (B = Flt.F m (q + 1)):=hB
        clear hB
        go_wp2_with fail
        go_roundw
        case rel=>exact ⟨by first | rfl | trivial,q + 1,B,by have:=HQ.1;omega,by have:=HQ.2;omega,rfl,HBB,by go_num⟩
        case measure=>have:=HQ.2;simp [intOf] <;> omega
      · have hqI : ¬ (0 : Int) < (e : Int) - (q : Int):=by omega
        have HQ : Hid (1074 ≤ q ∧ (q = 1074 ∨ q = e)):=(⟨hq1,by omega⟩ : _ ∧ _)
        clear hq1 hq2 hq
        have HA : Hid (A = Flt.F m q):=hA
        clear hA
        go_wp2_with fail
        go_loopw [6,8] (fun s6 s8 wr=>W = wr ∧ ∃ (p A' : Nat) (z : Int),s6 = .float .f64 A' ∧ A' = Flt.F m p ∧ s8 = .int .i64 z ∧ Hid ((e < 1074 ∧ e ≤ p ∧ p ≤ 1074 ∧ z = (e : Int) - (p : Int)) ∨ (1074 ≤ e ∧ p = e ∧ z = (e : Int) - 1074))) (fun _ s8 _=>(-(intOf s8)).toNat)
        case atStart =>
          obtain ⟨r1,r2⟩:=(show _ ∧ _ from HQ)
          refine ⟨by first | rfl | trivial,q,A,(e : Int) - 1074,rfl,HA,by first | rfl | go_num,?_⟩
          show _ ∨ _
          by_cases h : e < 1074
          · exact .inl ⟨h,by omega,by omega,by omega⟩
          · exact .inr ⟨by omega,by omega,by omega⟩
        case round =>
          obtain ⟨rfl,p,A',z,rfl,hA',rfl,HP⟩:=hrel
          have hp:=(show _ ∨ _ from HP)
          clear HP
          by_cases hr : e < 1074 ∧ e < p
          · obtain ⟨h1, h2, h3, h4⟩ : e < 1074 ∧ e ≤ p ∧ p ≤ 1074 ∧ z = (e : Int) - (p : Int) := by
              rcases hp with hp | hp
              · exact hp
              · omega
            obtain ⟨r,rfl⟩ : ∃ r,p = r + 1:=⟨p - 1,by omega⟩
            obtain ⟨B,hB⟩ : ∃ B,B = Flt.F m r:=⟨_,rfl⟩
            have hmul:=mul_run (Flt.F_half (q:=r) HM (by omega))
            rw [← hA',← hB] at hmul
            have HBB : Hid (B = Flt.F m r):=hB
            have hlt : z < 0:=by omega
            have hlt2 : -1074 ≤ z:=by omega
            have HR : Hid (e < 1074 ∧ e ≤ r ∧ r ≤ 1074 ∧ z + 1 = (e : Int) - (r : Int)):=(⟨h1,by omega,by omega,by omega⟩ : _ ∧ _)
            clear hB hA' hn HA hp hr h1 h2 h3 h4
            go_wp2_with fail
            go_roundw
            case rel=>exact ⟨by first | rfl | trivial,r,B,z + 1,rfl,HBB,by first | rfl | go_num,(Or.inl HR : _ ∨ _)⟩
            case measure=>simp [intOf];omega
          · have hpe : p = e:=by omega
            have hz1 : ¬ z < 0:=by omega
            have hz2 : z ≤ 971:=by omega
            subst hpe
            rw [← hA'] at hn HW
            clear hA' hp HA hr
            cases s
            · have hs' : (u : Int) / 9223372036854775808 = 0:=hs
              clear hs hn
              go_wp2_with fail
              go_ret
              exact ⟨A',rfl,by have:=HW.2.2;omega,Kb.refl _ _,fun _=>by rw [HW.1];rfl⟩
            · have hs' : (u : Int) / 9223372036854775808 = 1:=hs
              clear hs
              obtain ⟨N,hN⟩ : ∃ N,N = Ieee.double.word true A':=⟨_,rfl⟩
              rw [← hN] at hn HW
              have HN : Hid (u = N ∧ u < 18446744073709551616):=(⟨HW.1,HW.2.1⟩ : _ ∧ _)
              clear hN
              go_wp2_with fail
              go_ret
              exact ⟨N,rfl,by rw [← HN.1];exact HN.2,Kb.refl _ _,fun _=>HN.1.symm⟩
theorem fl_word : FlC:=by
  intro u hu W
  obtain ⟨s,E,M,h1,h2,h3,h4,h5,h6⟩:=fl_parts hu
  by_cases hE : E = 2047
  · subst hE
    exact fl_top hu h2 h3 h4 h5 h6 W
  · exact fl_num hu (by omega) h2 h3 h4 h5 h6 W
theorem cv_foi (x : Int) (w : World) : (convert 3 90 (.int .i64 x)).run Tryz.prog w = .ok (.float .f64 (floatOfInt .f64 x)) w:=by
  simp [convert,run_underlying Tryz.underlying3,run_underlying Tryz.underlying90]
  rfl
theorem foi_self (x : Int) (h0 : 0 ≤ x) (h1 : x ≤ 9007199254740991) : FloatKind.f64.format.order (floatOfInt .f64 x) (floatOfInt .f64 x) = some .eq:=by
  obtain ⟨m,rfl⟩:=Int.eq_ofNat_of_zero_le h0
  rw [of_int]
  have h2:=Flt.F_order_two (m:=m) (q:=1074) (by omega) (by omega)
  rcases Flt.order_cases (Flt.F m 1074) 4611686018427387904 with h | h | h
  · rw [h.2] at h2;cases h2
  · exact h.1
  · exact h.1
theorem hld_vals {W : World} {pa : Option Addr} {g n cp : Nat} (k : Int) (h1 : 1 ≤ k) (h2 : k ≤ 500000000) (hn : n ≤ 1048576) (hr : 0 < n → pa = some ⟨g, 0, none⟩ ∧ CJ vV 5 g k (n * 5) W) :
    Calls Tryz.prog 88 #[.slice pa n cp,.int .i64 k] W fun e w'=>e = .returned (.int .i64 (k + 5 * (n : Int))) ∧ Kb 0 W w':=by
  have HH : Hid (0 < n → pa = some ⟨g,0,none⟩ ∧ CJ vV 5 g k (n * 5) W):=hr
  have hnI : (n : Int) ≤ 1048576:=by omega
  clear hr hn
  go_enter Tryz.func88,Tryz.ntmps88
  go_wp2_with fail
  go_loopw [1,5] (fun s1 s5 wr=>∃ i : Nat,i ≤ n ∧ s5 = .int .i64 (i : Int) ∧ s1 = .int .i64 (k + 5 * (i : Int)) ∧ Hid (Kb 0 W wr)) (fun _ s5 _=>n - (intOf s5).toNat)
  case atStart=>exact ⟨0,by omega,rfl,by simp,Kb.refl _ _⟩
  case round =>
    obtain ⟨i,hi,rfl,rfl,HK⟩:=hrel
    by_cases hin : i < n
    · obtain ⟨rfl,hcj⟩:=(show 0 < n → _ from HH) (by omega)
      have hI : (i : Int) < (n : Int):=by omega
      have hb : i * 5 + 5 ≤ n * 5:=by have:=Nat.mul_le_mul_right 5 (show i + 1 ≤ n from hin);rw [Nat.succ_mul] at this;exact this
      obtain ⟨K,hK⟩ : ∃ K : Int,K = k + 5 * (i : Int):=⟨_,rfl⟩
      have hK1 : 1 ≤ K:=by omega
      have hK2 : K ≤ 600000000:=by omega
      have q0 : wr.cell? ⟨g,i * 5,none⟩ = some (mkI K):=by
        rw [(show Kb 0 W wr from HK).cell (hcj (i * 5) (by omega)),show (i * 5) % 5 = 0 by omega,show k + ((i * 5 : Nat) : Int) = K by omega]
        rfl
      have q1 : wr.cell? ⟨g,i * 5 + 1,none⟩ = some (mkI (K + 1)):=by
        rw [(show Kb 0 W wr from HK).cell (hcj (i * 5 + 1) (by omega)),show (i * 5 + 1) % 5 = 1 by omega,show k + ((i * 5 + 1 : Nat) : Int) = (K + 1) by omega]
        rfl
      have q2 : wr.cell? ⟨g,i * 5 + 2,none⟩ = some (mkF (K + 1 + 1)):=by
        rw [(show Kb 0 W wr from HK).cell (hcj (i * 5 + 2) (by omega)),show (i * 5 + 2) % 5 = 2 by omega,show k + ((i * 5 + 2 : Nat) : Int) = (K + 1 + 1) by omega]
        rfl
      have q3 : wr.cell? ⟨g,i * 5 + 3,none⟩ = some (mkS (K + 1 + 1 + 1)):=by
        rw [(show Kb 0 W wr from HK).cell (hcj (i * 5 + 3) (by omega)),show (i * 5 + 3) % 5 = 3 by omega,show k + ((i * 5 + 3 : Nat) : Int) = (K + 1 + 1 + 1) by omega]
        rfl
      have q4 : wr.cell? ⟨g,i * 5 + 4,none⟩ = some (mkI (K + 1 + 1 + 1 + 1)):=by
        rw [(show Kb 0 W wr from HK).cell (hcj (i * 5 + 4) (by omega)),show (i * 5 + 4) % 5 = 4 by omega,show k + ((i * 5 + 4 : Nat) : Int) = (K + 1 + 1 + 1 + 1) by omega]
        rfl
      have HKK : Hid (K = k + 5 * (i : Int)):=hK
      rw [← hK]
      clear hcj hb hK
      unfold mkI at q0
      unfold mkI at q1
      unfold mkF at q2
      have hff : FloatKind.f64.format.order (floatOfInt .f64 (K + 1 + 1)) (floatOfInt .f64 (K + 1 + 1)) = some .eq:=foi_self (K + 1 + 1) (by omega) (by omega)
      have hcv : ∀ w,(convert 3 90 (.int .i64 (K + 1 + 1))).run Tryz.prog w = .ok (.float .f64 (floatOfInt .f64 (K + 1 + 1))) w:=fun w=>cv_foi (K + 1 + 1) w
      generalize floatOfInt .f64 (K + 1 + 1) = Y at q2 hff hcv
      have hmt : ∀ W',Calls Tryz.prog 66 #[.int .i64 (K + 1 + 1 + 1)] W' fun e w'=>e = .returned (.string (⟨#[109]⟩ ++ mtl (K + 1 + 1 + 1).toNat ⟨#[]⟩)) ∧ Below W'.heap.size W' w':=fun W'=>by
        have HT:=mark_text (K + 1 + 1 + 1).toNat (by omega) (by omega) W'
        rw [Int.toNat_of_nonneg (by omega)] at HT
        exact HT
      unfold mkS at q3
      generalize (⟨#[109]⟩ ++ mtl (K + 1 + 1 + 1).toNat ⟨#[]⟩ : ByteArray) = X at hmt q3
      unfold mkI at q4
      have HKP : Hid (∀ (W0 W' : World),Below W0.heap.size W0 W' → W0.heap = wr.heap → W0.os = wr.os → W0.output = wr.output → Kb 0 wr W'):=(fun W0 W' hb e1 e2 e3=>⟨hb.os.trans e2,hb.output.trans e3,by rw [← e1];exact hb.size,fun i _ hi=>by rw [hb.block i (by rw [e1];exact hi),e1]⟩ : ∀ (W0 W' : World),_)
      go_upto_region 13 with fail
      go_region_held_law (fun W'=>W'.cell? ⟨g,i * 5 + 3,none⟩ = some (.string X)) (first | exact q3 | exact ((show ∀ (W0 W' : World),Below W0.heap.size W0 W' → W0.heap = wr.heap → W0.os = wr.os → W0.output = wr.output → Kb 0 wr W' from HKP) _ _ bz rfl rfl rfl).cell q3) ((go_at_call 66;refine (hmt _).mono ?_;rintro e z ⟨rfl,bz⟩))
      all_goals
        have kz : Kb 0 wr z:=(show ∀ (W0 W' : World),Below W0.heap.size W0 W' → W0.heap = wr.heap → W0.os = wr.os → W0.output = wr.output → Kb 0 wr W' from HKP) _ _ bz rfl rfl rfl
        have HK2 : Hid (Kb 0 W z):=(show Kb 0 W wr from HK).trans kz
        have r4 : z.cell? ⟨g,i * 5 + 4,none⟩ = some (.int .i64 (K + 1 + 1 + 1 + 1)):=kz.cell q4
        clear HK kz bz HKP hmt q0 q1 q2 q3 q4
        go_wp2_with fail
        go_roundw
        case rel=>exact ⟨i + 1,by omega,by go_num,by rw [(show K = _ from HKK)];congr 1;omega,HK2⟩
        case measure=>simp [intOf];omega
    · obtain rfl : i = n:=by omega
      have hI : ¬ (i : Int) < (i : Int):=by omega
      clear HH
      go_wp2_with fail
      go_ret
      exact ⟨rfl,HK⟩
theorem pr_lost {W : World} {b : Nat} {im : Value} (lf n : Int) (h : W.heap[b]? = some (.cells #[im, .int .i64 lf, .bool true] 69 (0, 0))) :
    Calls Tryz.prog 52 #[.pointer (some ⟨b,0,none⟩),.int .i64 n] W fun e w'=>e = .returned (.bool false) ∧ w'.heap[b]? = some (.cells #[im,.int .i64 lf,.bool true] 69 (0,0)) ∧ Kz b W w':=by
  have c1 : W.cell? ⟨b,1,none⟩ = some (.int .i64 lf):=cell_of h rfl
  have c2 : W.cell? ⟨b,2,none⟩ = some (.bool true):=cell_of h rfl
  have f1 : W.frozen? ⟨b,1,none⟩ = false:=frozen_of h
  have f2 : W.frozen? ⟨b,2,none⟩ = false:=frozen_of h
  have HH : Hid (W.heap[b]? = some (.cells #[im,.int .i64 lf,.bool true] 69 (0,0))):=h
  clear h
  go_enter Tryz.func52,Tryz.ntmps52
  go_wp2_with fail
  go_ret
  exact ⟨rfl,by rw [set_known _ (show W.heap[b]? = _ from HH)];rfl,(Kz.refl _ _).set _ _⟩
theorem pr_fits {W : World} {b : Nat} {im : Value} (lf n : Int) (h : W.heap[b]? = some (.cells #[im, .int .i64 lf, .bool false] 69 (0, 0))) (h0 : 0 ≤ n) (h1 : n ≤ lf) (hr : lf ≤ 1000000) :
    Calls Tryz.prog 52 #[.pointer (some ⟨b,0,none⟩),.int .i64 n] W fun e w'=>e = .returned (.bool true) ∧ w'.heap[b]? = some (.cells #[im,.int .i64 (lf - n),.bool false] 69 (0,0)) ∧ Kz b W w':=by
  have c1 : W.cell? ⟨b,1,none⟩ = some (.int .i64 lf):=cell_of h rfl
  have c2 : W.cell? ⟨b,2,none⟩ = some (.bool false):=cell_of h rfl
  have f1 : W.frozen? ⟨b,1,none⟩ = false:=frozen_of h
  have f2 : W.frozen? ⟨b,2,none⟩ = false:=frozen_of h
  have HH : Hid (W.heap[b]? = some (.cells #[im,.int .i64 lf,.bool false] 69 (0,0))):=h
  clear h
  have g0 : ¬ n < 0:=by omega
  have g1 : ¬ lf < n:=by omega
  have hs : wrap64 (lf - n) = lf - n:=by unfold wrap64;omega
  clear h0 h1 hr
  go_enter Tryz.func52,Tryz.ntmps52
  go_wp2_with fail
  go_ret
  exact ⟨rfl,by rw [set_known _ (set_known _ (show W.heap[b]? = _ from HH))];rfl,((Kz.refl _ _).set _ _).set _ _⟩
theorem pr_long {W : World} {b : Nat} {im : Value} (lf n : Int) (h : W.heap[b]? = some (.cells #[im, .int .i64 lf, .bool false] 69 (0, 0))) (h0 : 0 ≤ n) (h1 : lf < n) :
    Calls Tryz.prog 52 #[.pointer (some ⟨b,0,none⟩),.int .i64 n] W fun e w'=>e = .returned (.bool false) ∧ w'.heap[b]? = some (.cells #[im,.int .i64 lf,.bool true] 69 (0,0)) ∧ Kz b W w':=by
  have c1 : W.cell? ⟨b,1,none⟩ = some (.int .i64 lf):=cell_of h rfl
  have c2 : W.cell? ⟨b,2,none⟩ = some (.bool false):=cell_of h rfl
  have f1 : W.frozen? ⟨b,1,none⟩ = false:=frozen_of h
  have f2 : W.frozen? ⟨b,2,none⟩ = false:=frozen_of h
  have HH : Hid (W.heap[b]? = some (.cells #[im,.int .i64 lf,.bool false] 69 (0,0))):=h
  clear h
  have g0 : ¬ n < 0:=by omega
  clear h0
  go_enter Tryz.func52,Tryz.ntmps52
  go_wp2_with fail
  go_ret
  exact ⟨rfl,by rw [set_known _ (show W.heap[b]? = _ from HH)];rfl,(Kz.refl _ _).set _ _⟩
theorem pr_neg {W : World} {b : Nat} {im : Value} (lf n : Int) (h : W.heap[b]? = some (.cells #[im, .int .i64 lf, .bool false] 69 (0, 0))) (h0 : n < 0) :
    Calls Tryz.prog 52 #[.pointer (some ⟨b,0,none⟩),.int .i64 n] W fun e w'=>e = .returned (.bool false) ∧ w'.heap[b]? = some (.cells #[im,.int .i64 lf,.bool true] 69 (0,0)) ∧ Kz b W w':=by
  have c1 : W.cell? ⟨b,1,none⟩ = some (.int .i64 lf):=cell_of h rfl
  have c2 : W.cell? ⟨b,2,none⟩ = some (.bool false):=cell_of h rfl
  have f1 : W.frozen? ⟨b,1,none⟩ = false:=frozen_of h
  have f2 : W.frozen? ⟨b,2,none⟩ = false:=frozen_of h
  have HH : Hid (W.heap[b]? = some (.cells #[im,.int .i64 lf,.bool false] 69 (0,0))):=h
  clear h
  go_enter Tryz.func52,Tryz.ntmps52
  go_wp2_with fail
  go_ret
  exact ⟨rfl,by rw [set_known _ (show W.heap[b]? = _ from HH)];rfl,(Kz.refl _ _).set _ _⟩
structure RI (b : Nat) (p : Option Addr) (c : Nat) (M : List UInt8) (k : Nat) (lost : Bool) (W : World) : Prop where
  blk : W.heap[b]? = some (.cells #[.slice p M.length c,.int .i64 ((M.length : Int) - (k : Int)),.bool lost] 69 (0,0))
  le : k ≤ M.length
  sz : M.length ≤ 1000000
  cap : M.length ≤ c
  row : 0 < M.length → ∃ a,p = some a ∧ a.block ≠ b ∧ ∀ i (x : UInt8),M[i]? = some x → W.cell? (a.add i) = some (.int .u8 (x.toNat : Int))
theorem RI.kz {b : Nat} {p : Option Addr} {c : Nat} {M : List UInt8} {k k' : Nat} {lost lost' : Bool} {W w' : World} (h : RI b p c M k lost W) (z : Kz b W w') (hb : w'.heap[b]? = some (.cells #[.slice p M.length c,.int .i64 ((M.length : Int) - (k' : Int)),.bool lost'] 69 (0,0))) (hk : k' ≤ M.length) : RI b p c M k' lost' w' :=
  ⟨hb,hk,h.sz,h.cap,fun hm=>by
    obtain ⟨a,h1,h2,h3⟩:=h.row hm
    exact ⟨a,h1,h2,fun i x hx=>(World.cell?_of_block (by rw [add_block];exact z.block _ h2)).trans (h3 i x hx)⟩⟩
theorem im_take_fits {b : Nat} {p : Option Addr} {c : Nat} {M : List UInt8} {k : Nat} {W : World} (n : Nat) (h : RI b p c M k false W) (hn : k + n ≤ M.length) :
    Calls Tryz.prog 31 #[.pointer (some ⟨b,0,none⟩),.int .i64 (n : Int)] W fun e w'=>(∃ q,e = .returned (.slice q n (c - k)) ∧ q = if c = k then p else p.map (·.add k)) ∧ RI b p c M (k + n) false w' ∧ Kz b W w':=by
  have hsz:=h.sz
  have hcap:=h.cap
  have hle:=h.le
  have c0 : W.cell? ⟨b,0,none⟩ = some (.slice p M.length c):=cell_of h.blk rfl
  have c1 : W.cell? ⟨b,1,none⟩ = some (.int .i64 ((M.length : Int) - (k : Int))):=cell_of h.blk rfl
  have hat : IntKind.i64.wrap ((M.length : Int) - ((M.length : Int) - (k : Int))) = (k : Int):=by rw [IntKind.wrap_i64];omega
  have hw : IntKind.i64.wrap ((k : Int) + (n : Int)) = ((k + n : Nat) : Int):=by rw [IntKind.wrap_i64];omega
  have HH : Hid (RI b p c M k false W):=h
  have HC : ∀ d : Nat,_:=fun d=>pr_fits (W:=W.drewN d) ((M.length : Int) - (k : Int)) (n : Int) h.blk (by omega) (by omega) (by omega)
  have hE1 : (k : Int) ≤ (k : Int) + (n : Int):=by omega
  have hE2 : (k : Int) + (n : Int) ≤ (c : Int):=by omega
  have hE3 : (0 : Int) ≤ (k : Int):=by omega
  have hE4 : k ≤ k + n:=by omega
  have hE5 : k + n ≤ c:=by omega
  have HF : ∀ (d : Nat) (w1 : World),w1.heap[b]? = some (.cells #[.slice p M.length c,.int .i64 ((M.length : Int) - (k : Int) - (n : Int)),.bool false] 69 (0,0)) → Kz b (W.drewN d) w1 → RI b p c M (k + n) false w1 ∧ Kz b W w1:=fun d w1 z1 z2=>by
    have z : Kz b W w1:=((Kz.refl b W).drewN d).trans z2
    exact ⟨h.kz z (by rw [z1,show ((k + n : Nat) : Int) = (k : Int) + (n : Int) by omega,show (M.length : Int) - ((k : Int) + (n : Int)) = (M.length : Int) - (k : Int) - (n : Int) by omega]) hn,z⟩
  clear h
  by_cases hck : c = k
  · obtain rfl : n = 0:=by omega
    subst hck
    clear hw hE1 hE2 hE4 hE5
    go_enter Tryz.func31,Tryz.ntmps31
    go_wp2_with fail
    go_quiet (skip)
    go_wp2_with (go_at_call 52;refine (HC _).mono ?_;rintro e w1 ⟨rfl,z1,z2⟩;have d0 : w1.cell? ⟨b,0,none⟩ = some (.slice p M.length c):=cell_of z1 rfl)
    go_ret
    obtain ⟨q1,q2⟩:=HF _ _ z1 z2
    refine ⟨?_,q1,q2⟩
    simp
  · rw [if_neg hck]
    go_enter Tryz.func31,Tryz.ntmps31
    go_wp2_with fail
    go_quiet (skip)
    go_wp2_with (go_at_call 52;refine (HC _).mono ?_;rintro e w1 ⟨rfl,z1,z2⟩;have d0 : w1.cell? ⟨b,0,none⟩ = some (.slice p M.length c):=cell_of z1 rfl)
    go_ret
    obtain ⟨q1,q2⟩:=HF _ _ z1 z2
    refine ⟨?_,q1,q2⟩
    simp
theorem im_take_not {b : Nat} {p : Option Addr} {c : Nat} {M : List UInt8} {k : Nat} {lost : Bool} {W : World} (n : Int) (h : RI b p c M k lost W) (hn : lost = true ∨ n < 0 ∨ (M.length : Int) - (k : Int) < n) :
    Calls Tryz.prog 31 #[.pointer (some ⟨b,0,none⟩),.int .i64 n] W fun e w'=>e = .returned (.slice none 0 0) ∧ RI b p c M k true w' ∧ Kz b W w':=by
  have hsz:=h.sz
  have hle:=h.le
  have c0 : W.cell? ⟨b,0,none⟩ = some (.slice p M.length c):=cell_of h.blk rfl
  have c1 : W.cell? ⟨b,1,none⟩ = some (.int .i64 ((M.length : Int) - (k : Int))):=cell_of h.blk rfl
  have hat : IntKind.i64.wrap ((M.length : Int) - ((M.length : Int) - (k : Int))) = (k : Int):=by rw [IntKind.wrap_i64];omega
  have HC : ∀ d : Nat,Calls Tryz.prog 52 #[.pointer (some ⟨b,0,none⟩),.int .i64 n] (W.drewN d) fun e w'=>e = .returned (.bool false) ∧ w'.heap[b]? = some (.cells #[.slice p M.length c,.int .i64 ((M.length : Int) - (k : Int)),.bool true] 69 (0,0)) ∧ Kz b (W.drewN d) w':=fun d=>by
    have hb:=h.blk
    cases lost with
    | true=>exact pr_lost (W:=W.drewN d) _ n hb
    | false =>
      by_cases h0 : n < 0
      · exact pr_neg (W:=W.drewN d) _ n hb h0
      · exact pr_long (W := W.drewN d) _ n hb (by omega) (by
          rcases hn with hn | hn | hn
          · cases hn
          · omega
          · exact hn)
  have HF : ∀ (d : Nat) (w1 : World),w1.heap[b]? = some (.cells #[.slice p M.length c,.int .i64 ((M.length : Int) - (k : Int)),.bool true] 69 (0,0)) → Kz b (W.drewN d) w1 → RI b p c M k true w1 ∧ Kz b W w1:=fun d w1 z1 z2=>by
    have z : Kz b W w1:=((Kz.refl b W).drewN d).trans z2
    exact ⟨h.kz z z1 hle,z⟩
  clear h hn
  go_enter Tryz.func31,Tryz.ntmps31
  go_wp2_with fail
  go_quiet (skip)
  go_wp2_with (go_at_call 52;refine (HC _).mono ?_;rintro e w1 ⟨rfl,z1,z2⟩)
  go_ret
  obtain ⟨q1,q2⟩:=HF _ _ z1 z2
  exact ⟨rfl,q1,q2⟩
def RQ (b : Nat) (p : Option Addr) (c : Nat) (M : List UInt8) (k : Nat) (W : World) (Q : Value → Nat → Bool → Prop) (e : Ending) (w' : World) : Prop:=∃ v k' lost',e = .returned v ∧ RI b p c M k' lost' w' ∧ k ≤ k' ∧ Kz b W w' ∧ Q v k' lost'
theorem im_next {b : Nat} {p : Option Addr} {c : Nat} {M : List UInt8} {k : Nat} {lost : Bool} {W : World} (h : RI b p c M k lost W) :
    Calls Tryz.prog 124 #[.pointer (some ⟨b,0,none⟩)] W (RQ b p c M k W (fun v k' lost'=>∃ x : Nat,v = .int .u8 (x : Int) ∧ x < 256 ∧ (lost' = false → k' = k + 1) ∧ (lost' = true → x = 0) ∧ (lost = true → lost' = true) ∧ ∀ y,lost = false → M[k]? = some y → x = y.toNat ∧ k' = k + 1 ∧ lost' = false)):=by
  by_cases hf : lost = false ∧ k < M.length
  · obtain ⟨rfl,hk⟩:=hf
    have HC:=im_take_fits 1 h (by omega)
    obtain ⟨a,rfl,h2,h3⟩:=h.row (by omega)
    obtain ⟨x,hx⟩ : ∃ x,M[k]? = some x:=⟨_,List.getElem?_eq_getElem hk⟩
    have hcap:=h.cap
    have hck : ¬ c = k:=by omega
    rw [if_neg hck] at HC
    have hxl:=x.toNat_lt
    have hr : ∀ w1,Kz b W w1 → w1.cell? (a.add k) = some (.int .u8 (x.toNat : Int)):=fun w1 z=>(World.cell?_of_block (by rw [add_block];exact z.block _ h2)).trans (h3 k x hx)
    have HX : Hid (M[k]? = some x):=hx
    clear h h3 hx hcap
    have hnn : ∀ (a : Option Addr) (l c : Nat) (w : World),(binOp .neq 26 (.slice a l c) (.slice none 0 0)).run Tryz.prog w = .ok (.bool (!a.isNone)) w:=fun a l c w=>run_neq_slice_nil w 26 5 a l c Tryz.underlying26
    go_enter Tryz.func124,Tryz.ntmps124
    go_wp2_with (go_at_call 31;refine HC.mono ?_;rintro e w1 ⟨⟨q,rfl,rfl⟩,z1,z2⟩;have d0:=hr w1 z2)
    go_ret
    exact ⟨_,k + 1,false,rfl,z1,by omega,z2,x.toNat,rfl,by omega,fun _=>rfl,(fun e=>(nomatch e)),(fun e=>(nomatch e)),fun y _ hy=>⟨by rw [show M[k]? = some x from HX] at hy;injection hy with hy;rw [hy],rfl,rfl⟩⟩
  · have HC := im_take_not 1 h (by
      cases lost with
      | true=>exact .inl rfl
      | false=>exact .inr (.inr (by have : ¬ k < M.length:=fun e=>hf ⟨rfl,e⟩;omega)))
    have HN : Hid (∀ y,lost = false → M[k]? = some y → False):=(fun y e hy=>hf ⟨e,(List.getElem?_eq_some_iff.1 hy).1⟩ : ∀ y,_ → _ → False)
    clear h hf
    have hnn : ∀ (a : Option Addr) (l c : Nat) (w : World),(binOp .neq 26 (.slice a l c) (.slice none 0 0)).run Tryz.prog w = .ok (.bool (!a.isNone)) w:=fun a l c w=>run_neq_slice_nil w 26 5 a l c Tryz.underlying26
    go_enter Tryz.func124,Tryz.ntmps124
    go_wp2_with (go_at_call 31;refine HC.mono ?_;rintro e w1 ⟨rfl,z1,z2⟩)
    go_ret
    exact ⟨_,k,true,rfl,z1,Nat.le_refl _,z2,0,rfl,by omega,(fun e=>(nomatch e)),fun _=>rfl,fun _=>rfl,fun y e hy=>(HN y e hy).elim⟩
end Go.Proofs.YtnmeemjoodoalaaGreatDoor.Fo
