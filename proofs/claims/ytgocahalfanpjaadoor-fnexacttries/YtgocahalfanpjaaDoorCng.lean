import Derived.Test.YtgocahalfanpjaaDoorCnf
import Derived.Lib.ConvBytes
import Derived.Lib.Bytealg
namespace Go.Proofs.YtgocahalfanpjaaDoor.Fo
open Go.ChangeShapes Go.WideShapes Go.ChangeAt Go.RowKit
set_option linter.unusedVariables false
set_option maxRecDepth 100000

set_option maxHeartbeats 16000000 in
theorem im_ixs (s : ByteArray) (c : UInt8) (w : World) : Calls Tryd.prog 51 #[.string s, .int .u8 (c.toNat : Int)] w fun e w' => e = .returned (.int .i64 (Lib.indexByte s.data.toList c)) ∧ w' = w := by
  go_enter Tryd.func51, Tryd.ntmps51
  go_wp2_with fail
  rw [run_callFunc_extern Tryd.func58 (by kernel_rfl) (by kernel_rfl) (by kernel_rfl) (e := Extern.BytealgIndexByte.indexByte) (by kernel_rfl), Lib.run_indexByteString]
  simp only [Result.andThen]
  rw [Oper.upon_value]
  go_wp2_with fail
  go_ret
  exact ⟨by simp, rfl⟩
set_option maxHeartbeats 16000000 in
theorem im_ixb (s : ByteArray) (c : UInt8) (w : World) : Calls Tryd.prog 40 #[.string s, .int .u8 (c.toNat : Int)] w fun e w' => e = .returned (.int .i64 (Lib.indexByte s.data.toList c)) ∧ w' = w := by
  have h := im_ixs s c w
  go_enter Tryd.func40, Tryd.ntmps40
  go_wp2_with fail
  refine h.mono ?_
  rintro e w' ⟨rfl, rfl⟩
  go_wp2_with fail
  go_ret
  exact ⟨rfl, rfl⟩
theorem okb_ix (c : UInt8) : Lib.indexByte [97, 98, 99, 100, 101, 102, 103, 104, 105, 106, 107, 108, 109, 110, 111, 112, 113, 114, 115, 116, 117, 118, 119, 120, 121, 122, 48, 49, 50, 51, 52, 53, 54, 55, 56, 57, 95, 45] c < 0 ↔ okb c = false := by
  have h : ∀ n : Fin 256, decide (Lib.indexByte [97, 98, 99, 100, 101, 102, 103, 104, 105, 106, 107, 108, 109, 110, 111, 112, 113, 114, 115, 116, 117, 118, 119, 120, 121, 122, 48, 49, 50, 51, 52, 53, 54, 55, 56, 57, 95, 45] (UInt8.ofNat n.val) < 0) = !okb (UInt8.ofNat n.val) := by decide +kernel
  have h1 := h ⟨c.toNat, c.toNat_lt⟩
  simp only [UInt8.ofNat_toNat] at h1
  cases hk : okb c with
  | true => rw [hk] at h1; simpa using h1
  | false => rw [hk] at h1; simpa using h1
theorem kb_bytes (w : World) (s : ByteArray) : Kb 0 w (Lib.bytesWorld w 5 s) :=
  ⟨rfl, rfl, by rw [Lib.bytesWorld_size]; omega, fun k _ hk => Lib.bytesWorld_at_old w _ s k hk⟩
set_option maxHeartbeats 16000000 in
theorem im_part {l : List UInt8} (hl : l.length ≤ 60) (w : World) :
    Calls Tryd.prog 30 #[.string (bt l)] w fun e w' => e = .returned (.bool (okp l)) ∧ Kb 0 w w' := by
  have hlI : (l.length : Int) ≤ 60 := by omega
  have hsz : (bt l).size = l.length := bt_size l
  have ebl : (bt l).toList = l := bt_list l
  have hcv := Lib.run_convert_string_bytes (P := Tryd.prog) w 9 53 5 (bt l) Tryd.underlying9 Tryd.underlying53 Tryd.underlying5
  have HK : Hid (Kb 0 w (Lib.bytesWorld w 5 (bt l))) := kb_bytes w (bt l)
  have HC : Hid (∀ j (h : j < l.length), (Lib.bytesWorld w 5 (bt l)).cell? ⟨w.heap.size, j, none⟩ = some (.int .u8 (l[j].toNat : Int))) := (by
    intro j h
    rw [Lib.bytesWorld_cell w 5 (bt l) j (by rw [bt_size]; exact h)]
    have e : (bt l).data.toList = l := rfl
    rw [e, List.getD_eq_getElem?_getD, List.getElem?_eq_getElem h]
    rfl : ∀ j (h : j < l.length), _)
  rw [hsz] at hcv
  have hcap : l.length ≤ grownCap w l.length 0 5 := grownCap_ge ..
  generalize Lib.bytesWorld w 5 (bt l) = w2 at *
  generalize grownCap w l.length 0 5 = cp at *
  clear hl
  go_enter Tryd.func30, Tryd.ntmps30
  go_wp2_with fail
  go_loopw [8] (fun s8 wr => ∃ (j : Nat), s8 = .int .i64 (j : Int) ∧ j ≤ l.length ∧ Hid ((l.take j).all okb = true) ∧ wr = w2) (fun s8 _ => l.length - (intOf s8).toNat)
  case atStart => exact ⟨0, rfl, Nat.zero_le _, (rfl : _ = _), rfl⟩
  case round =>
    obtain ⟨j, rfl, hjl, HJ, rfl⟩ := hrel
    by_cases hj : j < l.length
    · have hjI : (j : Int) < (l.length : Int) := by omega
      have d0 := (show ∀ j (h : j < l.length), _ from HC) j hj
      have hby := im_ixb ⟨#[97, 98, 99, 100, 101, 102, 103, 104, 105, 106, 107, 108, 109, 110, 111, 112, 113, 114, 115, 116, 117, 118, 119, 120, 121, 122, 48, 49, 50, 51, 52, 53, 54, 55, 56, 57, 95, 45]⟩ l[j] wr
      cases hkb : okb l[j] with
      | true =>
        have hx : ¬ Lib.indexByte [97, 98, 99, 100, 101, 102, 103, 104, 105, 106, 107, 108, 109, 110, 111, 112, 113, 114, 115, 116, 117, 118, 119, 120, 121, 122, 48, 49, 50, 51, 52, 53, 54, 55, 56, 57, 95, 45] l[j] < 0 := fun q => by rw [(okb_ix _).1 q] at hkb; cases hkb
        have HJ2 : Hid ((l.take (j + 1)).all okb = true) := (all_take hj HJ hkb : _ = _)
        have HBY : Hid (Calls Tryd.prog 40 #[.string ⟨#[97, 98, 99, 100, 101, 102, 103, 104, 105, 106, 107, 108, 109, 110, 111, 112, 113, 114, 115, 116, 117, 118, 119, 120, 121, 122, 48, 49, 50, 51, 52, 53, 54, 55, 56, 57, 95, 45]⟩, .int .u8 (l[j].toNat : Int)] wr fun e w' => e = .returned (.int .i64 (Lib.indexByte [97, 98, 99, 100, 101, 102, 103, 104, 105, 106, 107, 108, 109, 110, 111, 112, 113, 114, 115, 116, 117, 118, 119, 120, 121, 122, 48, 49, 50, 51, 52, 53, 54, 55, 56, 57, 95, 45] l[j])) ∧ w' = wr) := hby
        clear hkb hby HJ HC
        generalize Lib.indexByte [97, 98, 99, 100, 101, 102, 103, 104, 105, 106, 107, 108, 109, 110, 111, 112, 113, 114, 115, 116, 117, 118, 119, 120, 121, 122, 48, 49, 50, 51, 52, 53, 54, 55, 56, 57, 95, 45] l[j] = z at *
        go_wp2_with fail
        refine (show Calls _ _ _ _ _ from HBY).mono ?_
        rintro e w8 ⟨rfl, rfl⟩
        go_wp2_with fail
        go_roundw
        case rel => exact ⟨j + 1, by go_num, by omega, HJ2, trivial⟩
        case measure => simp [intOf]; omega
      | false =>
        have hx : Lib.indexByte [97, 98, 99, 100, 101, 102, 103, 104, 105, 106, 107, 108, 109, 110, 111, 112, 113, 114, 115, 116, 117, 118, 119, 120, 121, 122, 48, 49, 50, 51, 52, 53, 54, 55, 56, 57, 95, 45] l[j] < 0 := (okb_ix _).2 hkb
        have HBY : Hid (Calls Tryd.prog 40 #[.string ⟨#[97, 98, 99, 100, 101, 102, 103, 104, 105, 106, 107, 108, 109, 110, 111, 112, 113, 114, 115, 116, 117, 118, 119, 120, 121, 122, 48, 49, 50, 51, 52, 53, 54, 55, 56, 57, 95, 45]⟩, .int .u8 (l[j].toNat : Int)] wr fun e w' => e = .returned (.int .i64 (Lib.indexByte [97, 98, 99, 100, 101, 102, 103, 104, 105, 106, 107, 108, 109, 110, 111, 112, 113, 114, 115, 116, 117, 118, 119, 120, 121, 122, 48, 49, 50, 51, 52, 53, 54, 55, 56, 57, 95, 45] l[j])) ∧ w' = wr) := hby
        have eo : okp l = false := by simpa using okp_bad hj hkb
        clear hkb hby HJ HC
        generalize Lib.indexByte [97, 98, 99, 100, 101, 102, 103, 104, 105, 106, 107, 108, 109, 110, 111, 112, 113, 114, 115, 116, 117, 118, 119, 120, 121, 122, 48, 49, 50, 51, 52, 53, 54, 55, 56, 57, 95, 45] l[j] = z at *
        go_wp2_with fail
        refine (show Calls _ _ _ _ _ from HBY).mono ?_
        rintro e w8 ⟨rfl, rfl⟩
        go_wp2_with fail
        go_ret
        exact ⟨by rw [eo]; rfl, HK⟩
    obtain rfl : j = l.length := by omega
    clear HC hj hjl
    by_cases h0 : l = []
    · subst h0
      have eo : okp [] = false := rfl
      have ej : bt [] = ⟨#[]⟩ := rfl
      clear hcv
      simp only [ej] at *
      go_wp2_with fail
      go_ret
      exact ⟨by rw [eo]; rfl, HK⟩
    have eo : okp l = true := okp_all h0 (by have := (show _ = _ from HJ); rwa [List.take_length] at this)
    have m1 : (l == []) = false := by simpa using h0
    have m2 : l.isEmpty = false := by simpa using h0
    clear HJ
    go_wp2_with fail
    go_ret
    exact ⟨by rw [eo]; rfl, HK⟩
end Go.Proofs.YtgocahalfanpjaaDoor.Fo
