import Derived.Test.YtjakooihcbdcaaaDoorMLdc
import Derived.Deep.RegionHeldLaw
set_option maxHeartbeats 4000000
namespace Go.Proofs.YtjakooihcbdcaaaDoor.Fo
open Go.ChangeShapes Go.WideShapes Go.ChangeAt Go.RowKit
set_option linter.unusedVariables false
set_option maxRecDepth 100000
def lh (p j : Int) (ON : ByteArray) : ByteArray:=(((itx p ++ ⟨#[58]⟩) ++ itx j) ++ ⟨#[32]⟩) ++ ON
def lnf (B : ByteArray) (L : Nat → Int) : Nat → ByteArray
  | 0=>B
  | k + 1=>lnf B L k ++ (⟨#[32]⟩ ++ itx (L k))
theorem lnf_len {B : ByteArray} {L : Nat → Int} : ∀ k,(∀ i,i < k → -9223372036854775808 ≤ L i ∧ L i ≤ 9223372036854775807) → (lnf B L k).size ≤ B.size + k * 22
  | 0,_=>by show B.size ≤ _;omega
  | k + 1,h=>by
    have h1:=lnf_len (B:=B) k (fun i hi=>h i (by omega))
    have h2:=itx_len (L k) (h k (by omega)).1 (h k (by omega)).2
    have e2 : (⟨#[32]⟩ : ByteArray).size = 1:=rfl
    show (lnf B L k ++ (⟨#[32]⟩ ++ itx (L k))).size ≤ _
    rw [ba_len,ba_len,e2]
    omega
theorem im_listed (p j : Int) (hp : -9223372036854775808 ≤ p ∧ p ≤ 9223372036854775807) (hj : -9223372036854775808 ≤ j ∧ j ≤ 9223372036854775807) (ON : ByteArray) (hON : ON.size ≤ 8) (L : Nat → Int) (n : Nat) (hn : n ≤ 6) (hL : ∀ i, i < n → -9223372036854775808 ≤ L i ∧ L i ≤ 9223372036854775807) (q : Addr) (w : World) (hpw : Pw w) (hq : ∀ k, k < n → w.cell? (q.add k) = some (.int .i64 (L k))) :
    Calls Tryd.prog 17 #[.int .i64 p,.int .i64 j,.string ON,.slice (some q) n n] w fun e w'=>e = .returned (.string (lnf (lh p j ON) L n ++ ⟨#[10]⟩)) ∧ Kb 0 w w':=by
  have e1 : (⟨#[58]⟩ : ByteArray).size = 1:=rfl
  have e2 : (⟨#[32]⟩ : ByteArray).size = 1:=rfl
  have z1:=itx_len p hp.1 hp.2
  have z2:=itx_len j hj.1 hj.2
  have zh : (lh p j ON).size ≤ 52:=by
    unfold lh
    rw [ba_len,ba_len,ba_len,ba_len,e1,e2]
    omega
  have HC1:=im_itoa p hp.1 hp.2 w hpw
  have HC2 : Hid (∀ W,Kb 0 w W → Calls Tryd.prog 33 #[.int .i64 j] W fun e w'=>e = .returned (.string (itx j)) ∧ Kb 0 W w'):=(fun W k=>im_itoa j hj.1 hj.2 W (pw_keep hpw k) : ∀ W,_)
  have HI : Hid (Pw w ∧ (∀ k,k < n → w.cell? (q.add k) = some (.int .i64 (L k))) ∧ (∀ i,i < n → -9223372036854775808 ≤ L i ∧ L i ≤ 9223372036854775807)):=(⟨hpw,hq,hL⟩ : _ ∧ _)
  obtain ⟨H,hH⟩ : ∃ H,H = lh p j ON:=⟨_,rfl⟩
  have HH : Hid (H = (((itx p ++ ⟨#[58]⟩) ++ itx j) ++ ⟨#[32]⟩) ++ ON):=hH
  rw [← hH] at zh ⊢
  clear hp hj hL hpw hq hH
  generalize itx p = IP at *
  generalize itx j = IJ at *
  have u1 : ¬ 9223372036854775807 < IP.size + 1:=by omega
  have u2 : ¬ 9223372036854775807 < IP.size + 1 + IJ.size:=by omega
  have u3 : ¬ 9223372036854775807 < IP.size + 1 + IJ.size + 1:=by omega
  have u4 : ¬ 9223372036854775807 < IP.size + 1 + IJ.size + 1 + ON.size:=by omega
  have nI : (n : Int) ≤ 6:=by omega
  clear z1 z2 e1 e2 hON
  go_enter Tryd.func17,Tryd.ntmps17
  go_wp2_with fail
  refine HC1.mono ?_
  rintro e w1 ⟨rfl,k1⟩
  have HC3:=(show ∀ W,Kb 0 w W → _ from HC2) w1 k1
  clear HC1 HC2
  go_wp2_with fail
  refine HC3.mono ?_
  rintro e w2 ⟨rfl,k2⟩
  have HK2 : Hid (Kb 0 w w2):=k1.trans k2
  clear HC3 k1 k2
  go_wp2_with fail
  rw [← (show H = _ from HH)]
  clear HH u1 u2 u3 u4
  go_loopw [9,23] (fun s9 s23 wr=>∃ k : Nat,k ≤ n ∧ s23 = .int .i64 (k : Int) ∧ s9 = .string (lnf H L k) ∧ Hid (Kb 0 w wr)) (fun _ s23 _=>n - (intOf s23).toNat)
  case atStart=>exact ⟨0,by omega,rfl,rfl,HK2⟩
  case round =>
    obtain ⟨k,hk,rfl,rfl,HK⟩:=hrel
    clear HK2
    obtain ⟨hpw,hq,hL⟩:=(show _ ∧ _ ∧ _ from HI)
    have kr:=(show Kb 0 w wr from HK)
    have zk:=lnf_len (B:=H) (L:=L) k (fun i hi=>hL i (by omega))
    rcases Nat.lt_or_ge k n with h | h
    · have kI : (k : Int) < (n : Int):=by omega
      have ck:=kr.cell (hq k h)
      have HC:=im_itoa (L k) (hL k h).1 (hL k h).2 wr (pw_keep hpw kr)
      have zi:=itx_len (L k) (hL k h).1 (hL k h).2
      have HN : Hid (lnf H L (k + 1) = lnf H L k ++ (⟨#[32]⟩ ++ itx (L k))):=rfl
      clear hpw hq hL kr h
      generalize itx (L k) = X at *
      generalize L k = x at *
      generalize hLk : lnf H L k = LK at *
      generalize hLn : lnf H L (k + 1) = LN at *
      have u1 : ¬ 9223372036854775807 < 1 + X.size:=by omega
      have u2 : ¬ 9223372036854775807 < LK.size + (1 + X.size):=by omega
      clear zi zk
      go_wp2_with fail
      refine HC.mono ?_
      rintro e w3 ⟨rfl,k3⟩
      have HK3 : Hid (Kb 0 w w3):=(show Kb 0 w wr from HK).trans k3
      clear HC k3 HK ck
      go_wp2_with fail
      rw [← (show LN = _ from HN)]
      go_roundw
      case rel=>exact ⟨k + 1,by omega,by go_num,by rw [hLn],HK3⟩
      case measure=>simp [intOf];omega
    · obtain rfl : k = n:=by omega
      have kI : ¬ (k : Int) < (k : Int):=by omega
      clear hpw hq hL kr h HI
      generalize hLK : lnf H L k = LK at *
      have u1 : ¬ 9223372036854775807 < LK.size + 1:=by omega
      clear zk zh
      go_wp2_with fail
      go_ret
      exact ⟨by first | rfl | (rw [hLK];rfl) | (rw [← hLK];rfl),HK⟩
end Go.Proofs.YtjakooihcbdcaaaDoor.Fo
