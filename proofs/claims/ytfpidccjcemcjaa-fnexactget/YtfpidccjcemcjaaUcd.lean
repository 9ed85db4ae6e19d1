import Derived.Test.YtfpidccjcemcjaaUcc
import Derived.Deep.RegionHeldLaw
namespace Go.Proofs.Ytfpidccjcemcjaa
open Go.ChangeShapes Go.WideShapes Go.ChangeAt Go.RowKit
set_option linter.unusedVariables false
set_option maxRecDepth 100000
set_option maxHeartbeats 4000000 in
theorem sp_tok_n {pa : Option Addr} {ca n : Nat} {F : Nat → Pv} (T : Int) (w : World) (hn : n ≤ 1048576) (h : 500 < n) : Calls Try.prog 15 #[.agg #[.slice pa n ca, .int .i64 T]] w fun e w' => e = .returned (.bool (dc (tok n F T))) ∧ Kq w w' := by
  rw [dc_f (fun h : tok n F T => by have := h.1; omega)]
  have hnI : (n : Int) ≤ 1048576 := by omega
  have h1 : 500 < (n : Int) := by omega
  clear hn
  go_enter Try.func15, Try.ntmps15
  go_wp2_with fail
  go_ret
  exact ⟨rfl, .of_grown (by go_grown)⟩
set_option maxHeartbeats 4000000 in
theorem sp_tok_l {pa : Option Addr} {ca n : Nat} {F : Nat → Pv} (T : Int) (w : World) (hn : n ≤ 1048576) (h0 : n ≤ 500) (h : T < 0) : Calls Try.prog 15 #[.agg #[.slice pa n ca, .int .i64 T]] w fun e w' => e = .returned (.bool (dc (tok n F T))) ∧ Kq w w' := by
  rw [dc_f (fun h : tok n F T => by have := h.2.1; omega)]
  have hnI : (n : Int) ≤ 1048576 := by omega
  have h1 : ¬ 500 < (n : Int) := by omega
  clear hn
  go_enter Try.func15, Try.ntmps15
  go_wp2_with fail
  go_ret
  exact ⟨rfl, .of_grown (by go_grown)⟩
set_option maxHeartbeats 4000000 in
theorem sp_tok_g {pa : Option Addr} {ca n : Nat} {F : Nat → Pv} (T : Int) (w : World) (hn : n ≤ 1048576) (h0 : n ≤ 500) (h2 : 0 ≤ T) (h : 1000000000000 < T) : Calls Try.prog 15 #[.agg #[.slice pa n ca, .int .i64 T]] w fun e w' => e = .returned (.bool (dc (tok n F T))) ∧ Kq w w' := by
  rw [dc_f (fun h : tok n F T => by have := h.2.2.1; omega)]
  have hnI : (n : Int) ≤ 1048576 := by omega
  have h1 : ¬ 500 < (n : Int) := by omega
  have h3 : ¬ T < 0 := by omega
  clear hn
  go_enter Try.func15, Try.ntmps15
  go_wp2_with fail
  go_ret
  exact ⟨rfl, .of_grown (by go_grown)⟩
set_option maxHeartbeats 8000000 in
theorem sp_tableok {v : Value} {g n : Nat} {F : Nat → Pv} (T : Int) (w : World) (ha : OwnP w v g n F) (tb : Tb n F) : Calls Try.prog 15 #[.agg #[v, .int .i64 T]] w fun e w' => e = .returned (.bool (dc (tok n F T))) ∧ Kq w w' := by
  obtain ⟨pa, ca, rfl, ha2⟩ := ha.sl
  rcases Nat.lt_or_ge 500 n with hn5 | hn5
  · exact sp_tok_n T w tb.len hn5
  rcases Int.lt_or_le T 0 with ht0 | ht0
  · exact sp_tok_l T w tb.len hn5 ht0
  rcases Int.lt_or_le 1000000000000 T with ht1 | ht1
  · exact sp_tok_g T w tb.len hn5 ht0 ht1
  have h1 : ¬ 500 < (n : Int) := by omega
  have h2 : ¬ T < 0 := by omega
  have h3 : ¬ 1000000000000 < T := by omega
  have hnI : (n : Int) ≤ 500 := by omega
  have HA : Hid ((0 < n → pa = some ⟨g, 0, none⟩ ∧ n ≤ ca) ∧ (∀ i, i < n → Cp w ⟨g, i * 11, none⟩ (F i)) ∧ Tb n F ∧ n ≤ 500 ∧ 0 ≤ T ∧ T ≤ 1000000000000) := (⟨ha2, ha.ce, tb, hn5, ht0, ht1⟩ : _ ∧ _ ∧ _ ∧ _ ∧ _ ∧ _)
  obtain ⟨w1, hw1⟩ : ∃ w1, w1 = w.alloc (.cells #[.slice pa n ca, .int .i64 T] 40) := ⟨_, rfl⟩
  have K1 : Kq w w1 := by rw [hw1]; exact kq_alloc _ _ _
  have a0 : w1.heap[w.heap.size]? = some (.cells #[.slice pa n ca, .int .i64 T] 40 (0, 0)) := by rw [hw1]; exact alloc_new _ _
  have HW1 : Hid (Kq w w1 ∧ w1.heap[w.heap.size]? = some (.cells #[.slice pa n ca, .int .i64 T] 40 (0, 0))) := (⟨K1, a0⟩ : _ ∧ _)
  clear ha2 ha tb hn5 ht0 ht1 K1 a0
  go_enter Try.func15, Try.ntmps15
  go_wp2_with fail
  rw [← hw1]
  clear hw1
  go_loopw [3, 24] (fun s3 s24 wr => ∃ i : Nat, s3 = .int .i64 (lst F i) ∧ s24 = .int .i64 (i : Int) ∧ i ≤ n ∧ Hid (Kq w1 wr ∧ ∀ j, j < i → pok F T j)) (fun _ s24 _ => n - (intOf s24).toNat)
  case atStart => exact ⟨0, rfl, rfl, Nat.zero_le _, (⟨Kq.refl _, fun j hj => by omega⟩ : _ ∧ _)⟩
  case round =>
    obtain ⟨i, rfl, rfl, hin, HX⟩ := hrel
    rcases Nat.lt_or_ge i n with hi | hi
    · have hA := (show (0 < n → pa = some ⟨g, 0, none⟩ ∧ n ≤ ca) ∧ (∀ i, i < n → Cp w ⟨g, i * 11, none⟩ (F i)) ∧ Tb n F ∧ n ≤ 500 ∧ 0 ≤ T ∧ T ≤ 1000000000000 from HA)
      have hX := (show Kq w1 wr ∧ ∀ j, j < i → pok F T j from HX)
      have hW1 := (show Kq w w1 ∧ w1.heap[w.heap.size]? = some (.cells #[.slice pa n ca, .int .i64 T] 40 (0, 0)) from HW1)
      obtain ⟨rfl, hca⟩ := hA.1 (by omega)
      have tb := hA.2.2.1
      have kwr : Kq w wr := hW1.1.trans hX.1
      have hbx : wr.heap[w.heap.size]? = some (.cells #[.slice (some ⟨g, 0, none⟩) n ca, .int .i64 T] 40 (0, 0)) := (hX.1.block _ (by rcases Nat.lt_or_ge w.heap.size w1.heap.size with q | q; exact q; have := hW1.2; rw [Array.getElem?_eq_none q] at this; cases this)).trans hW1.2
      have hbl : w.heap.size < wr.heap.size := by
        rcases Nat.lt_or_ge w.heap.size wr.heap.size with q | q
        · exact q
        · rw [Array.getElem?_eq_none q] at hbx; cases hbx
      have hc := (hA.2.1 i hi).kq kwr
      have HK := fun w => sp_kok (F i).a (tb.xa i hi) (tb.a i hi).g w
      have HO := fun w => sp_ok (F i).b (tb.xb i hi) w
      have HSAME : Hid (∀ j, j < i → kok (F i).a → ∀ w, Calls Try.prog 41 #[vv (F j).a, vv (F i).a] w fun e w' => e = .returned (.bool (dc (mk (F j).a = mk (F i).a))) ∧ Grown w w') := (fun j hj hk w => sp_same _ _ (hX.2 j hj).1 hk (tb.a j (by omega)) (tb.a i hi) (tb.xa j (by omega)) (tb.xa i hi) w : ∀ j, j < i → kok (F i).a → ∀ w, _)
      have HROW : Hid (∀ j, j < i → Cp wr ⟨g, j * 11, none⟩ (F j)) := (fun j hj => (hA.2.1 j (by omega)).kq kwr : ∀ j, j < i → _)
      have HBAD : Hid (¬ pok F T i → ¬ tok n F T) := (fun h h' => h (h'.2.2.2 i hi) : ¬ pok F T i → ¬ tok n F T)
      have HGOOD : Hid (pok F T i → ∀ j, j < i + 1 → pok F T j) := (fun h j hj => by
        by_cases e : j = i
        · subst e; exact h
        · exact hX.2 j (by omega) : pok F T i → ∀ j, j < i + 1 → pok F T j)
      have KW : Hid (Kq w wr ∧ Kq w1 wr) := (⟨kwr, hX.1⟩ : _ ∧ _)
      have HPK : Hid (pok F T i ↔ kok (F i).a ∧ vok (F i).b ∧ ¬ (F i).b.k = 0 ∧ lst F i < (F i).t ∧ (F i).t ≤ T ∧ ∀ j, j < i → ¬ mk (F j).a = mk (F i).a) := Iff.rfl
      have HFT : Hid (lst F (i + 1) = (F i).t) := rfl
      have hll : -9223372036854775808 ≤ lst F i := by
        cases i with
        | zero => show (-9223372036854775808 : Int) ≤ 0; omega
        | succ i => exact (tb.t i (by omega)).1
      have hiI : (i : Int) < (n : Int) := by omega
      clear hA HA hX HX hW1 HW1 tb kwr hin
      generalize F i = p at HK HO HSAME HPK HFT hc
      generalize lst F i = la at HPK hll ⊢
      obtain ⟨⟨k, m, gg, x, r⟩, ⟨k2, m2, g2, x2, r2⟩, t⟩ := p
      obtain ⟨d0, d1, d2, d3, d4, d5, d6, d7, d8, d9, d10⟩ := hc
      have b0 := cell_of hbx (j := 0) rfl
      have b1 := cell_of hbx (j := 1) rfl
      unfold vv at HK HO
      dsimp only at HK HO HPK HFT d0 d1 d2 d3 d4 d5 d6 d7 d8 d9 d10
      have hst : ∀ (a : Addr) (n : Nat) (m : Mode) (w : World), (store a (.float .f64 n) m).run Try.prog w = stored Try.prog w a (.float .f64 n) m := fun a n m w => run_store _ _ _ _ _ rfl
      go_wp2_with fail
      refine (HK _).mono ?_
      rintro e w2 ⟨rfl, g2'⟩
      have P2 := (Pb.new wr ⟨⟨k, m, gg, x, r⟩, ⟨k2, m2, g2, x2, r2⟩, t⟩ 51).kq g2'
      have K2 : Kq wr w2 := (kq_alloc _ _ _).trans g2'
      have B2 := (K2.block _ hbl).trans hbx
      clear g2' d0 d1 d2 d3 d4 d5 d6 d7 d8 d9 d10 b0 b1
      have z2 : wr.heap.size < w2.heap.size := lt_of_cell P2.c0
      by_cases hk : kok ⟨k, m, gg, x, r⟩
      case neg =>
        rw [dc_f hk]
        have HNT : Hid (¬ tok n F T) := (show ¬ pok F T i → ¬ tok n F T from HBAD) (fun h => hk ((show pok F T i ↔ _ from HPK).1 h).1)
        have KE : Hid (Kq w w2) := (show Kq w wr ∧ Kq w1 wr from KW).1.trans K2
        clear HSAME HROW HBAD HGOOD HPK HFT KW P2 K2 B2 HK HO hbx
        go_wp2_with fail
        go_ret
        exact ⟨by rw [dc_f (show ¬ tok n F T from HNT)]; rfl, KE⟩
      rw [dc_t hk]
      obtain ⟨p0, p1, p2, p3, p4, p5, p6, p7, p8, p9, p10⟩ := P2
      dsimp only at p0 p1 p2 p3 p4 p5 p6 p7 p8 p9 p10
      go_wp2_with fail
      refine (HO _).mono ?_
      rintro e w3 ⟨rfl, g3⟩
      have P3 : Pb w3 wr.heap.size ⟨⟨k, m, gg, x, r⟩, ⟨k2, m2, g2, x2, r2⟩, t⟩ := Pb.kq (⟨p0, p1, p2, p3, p4, p5, p6, p7, p8, p9, p10⟩ : Pb w2 wr.heap.size ⟨⟨k, m, gg, x, r⟩, ⟨k2, m2, g2, x2, r2⟩, t⟩) (.of_grown g3)
      have K3 : Kq wr w3 := K2.trans (.of_grown g3)
      have B3 := (K3.block _ hbl).trans hbx
      have b1 := cell_of B3 (j := 1) rfl
      clear g3 p0 p1 p2 p3 p4 p5 p6 p7 p8 p9 p10 K2 B2
      obtain ⟨p0, p1, p2, p3, p4, p5, p6, p7, p8, p9, p10⟩ := P3
      dsimp only at p0 p1 p2 p3 p4 p5 p6 p7 p8 p9 p10
      have KE : Hid (Kq w w3) := (show Kq w wr ∧ Kq w1 wr from KW).1.trans K3
      by_cases hv : vok ⟨k2, m2, g2, x2, r2⟩
      case neg =>
        rw [dc_f hv]
        have HNT : Hid (¬ tok n F T) := (show ¬ pok F T i → ¬ tok n F T from HBAD) (fun h => hv ((show pok F T i ↔ _ from HPK).1 h).2.1)
        clear HSAME HROW HBAD HGOOD HPK HFT KW K3 B3 HK HO hbx
        go_wp2_with fail
        go_ret
        exact ⟨by rw [dc_f (show ¬ tok n F T from HNT)]; rfl, KE⟩
      rw [dc_t hv]
      by_cases hk0 : k2 = 0
      case pos =>
        have HNT : Hid (¬ tok n F T) := (show ¬ pok F T i → ¬ tok n F T from HBAD) (fun h => ((show pok F T i ↔ _ from HPK).1 h).2.2.1 hk0)
        subst hk0
        clear HSAME HROW HBAD HGOOD HPK HFT KW K3 B3 HK HO hbx
        go_wp2_with fail
        go_ret
        exact ⟨by rw [dc_f (show ¬ tok n F T from HNT)]; rfl, KE⟩
      rcases Int.lt_or_le la t with hlt | hlt
      case inr =>
        have HNT : Hid (¬ tok n F T) := (show ¬ pok F T i → ¬ tok n F T from HBAD) (fun h => by have := ((show pok F T i ↔ _ from HPK).1 h).2.2.2.1; omega)
        clear HSAME HROW HBAD HGOOD HPK HFT KW K3 B3 HK HO hbx
        go_wp2_with fail
        go_ret
        exact ⟨by rw [dc_f (show ¬ tok n F T from HNT)]; rfl, KE⟩
      rcases Int.lt_or_le T t with htt | htt
      case inl =>
        have HNT : Hid (¬ tok n F T) := (show ¬ pok F T i → ¬ tok n F T from HBAD) (fun h => by have := ((show pok F T i ↔ _ from HPK).1 h).2.2.2.2.1; omega)
        have q1 : ¬ t ≤ la := by omega
        clear HSAME HROW HBAD HGOOD HPK HFT KW K3 B3 HK HO hbx
        go_wp2_with fail
        go_ret
        exact ⟨by rw [dc_f (show ¬ tok n F T from HNT)]; rfl, KE⟩
      have q1 : ¬ t ≤ la := by omega
      have q2 : ¬ T < t := by omega
      have HGO : Hid ((∀ j, j < i → ¬ mk (F j).a = mk ⟨k, m, gg, x, r⟩) ↔ pok F T i) := (⟨fun h => (show pok F T i ↔ _ from HPK).2 ⟨hk, hv, hk0, hlt, htt, h⟩, fun h => ((show pok F T i ↔ _ from HPK).1 h).2.2.2.2.2⟩ : _ ↔ _)
      have HSM : Hid (∀ j, j < i → ∀ w, Calls Try.prog 41 #[vv (F j).a, vv ⟨k, m, gg, x, r⟩] w fun e w' => e = .returned (.bool (dc (mk (F j).a = mk ⟨k, m, gg, x, r⟩))) ∧ Grown w w') := (fun j hj w => (show ∀ j, j < i → kok ⟨k, m, gg, x, r⟩ → ∀ w, _ from HSAME) j hj hk w : ∀ j, j < i → ∀ w, _)
      have HP3 : Hid (Pb w3 wr.heap.size ⟨⟨k, m, gg, x, r⟩, ⟨k2, m2, g2, x2, r2⟩, t⟩ ∧ w3.heap[w.heap.size]? = some (.cells #[.slice (some ⟨g, 0, none⟩) n ca, .int .i64 T] 40 (0, 0)) ∧ (∀ j, j < i → Cp w3 ⟨g, j * 11, none⟩ (F j)) ∧ Kq w w3 ∧ Kq w1 w3) := (⟨⟨p0, p1, p2, p3, p4, p5, p6, p7, p8, p9, p10⟩, B3, fun j hj => ((show ∀ j, j < i → Cp wr ⟨g, j * 11, none⟩ (F j) from HROW) j hj).kq K3, (show Kq w wr ∧ Kq w1 wr from KW).1.trans K3, (show Kq w wr ∧ Kq w1 wr from KW).2.trans K3⟩ : _ ∧ _ ∧ _ ∧ _ ∧ _)
      clear HSAME HROW HPK KW K3 B3 HK HO hbx
      go_wp2_with fail
      · exfalso
        rename_i hh
        rcases hh with (hh | hh) | hh
        · exact hk0 (by simpa using hh)
        · omega
        · omega
      clear p0 p1 p2 p3 p4 p5 p6 p7 p8 p9 p10 b1
      generalize wr.heap.size = PB at HP3 hbl z2 ⊢
      clear KE
      rw [show (k2 == 0) = false by simpa using hk0]
      go_loopw [6] (fun s6 wr2 => ∃ j : Nat, s6 = .int .i64 (j : Int) ∧ j ≤ i ∧ Hid (Kq w3 wr2 ∧ ∀ j', j' < j → ¬ mk (F j').a = mk ⟨k, m, gg, x, r⟩)) (fun s6 _ => i - (intOf s6).toNat)
      case atStart => exact ⟨0, rfl, Nat.zero_le _, (⟨Kq.refl _, fun j hj => by omega⟩ : _ ∧ _)⟩
      case round =>
        obtain ⟨j, rfl, hji, HY⟩ := hrel
        rcases Nat.lt_or_ge j i with hj | hj
        · have hP := (show Pb w3 PB ⟨⟨k, m, gg, x, r⟩, ⟨k2, m2, g2, x2, r2⟩, t⟩ ∧ w3.heap[w.heap.size]? = some (.cells #[.slice (some ⟨g, 0, none⟩) n ca, .int .i64 T] 40 (0, 0)) ∧ (∀ j, j < i → Cp w3 ⟨g, j * 11, none⟩ (F j)) ∧ Kq w w3 ∧ Kq w1 w3 from HP3)
          have hY := (show Kq w3 wr ∧ ∀ j', j' < j → ¬ mk (F j').a = mk ⟨k, m, gg, x, r⟩ from HY)
          obtain ⟨p0, p1, p2, p3, p4, p5, p6, p7, p8, p9, p10⟩ := hP.1.kq hY.1
          have z3 : w.heap.size < w3.heap.size := by
            rcases Nat.lt_or_ge w.heap.size w3.heap.size with q | q
            · exact q
            · have := hP.2.1; rw [Array.getElem?_eq_none q] at this; cases this
          have B4 := (hY.1.block _ z3).trans hP.2.1
          have b0 := cell_of B4 (j := 0) rfl
          have hcj := (hP.2.2.1 j hj).kq hY.1
          have hla := hcj.lt
          have hlb : w.heap.size < wr.heap.size := Nat.lt_of_lt_of_le z3 hY.1.size
          have hlp : PB < wr.heap.size := lt_of_cell p0
          obtain ⟨a0, a1, a2, a3, a4, a5, a6, a7, a8, a9, a10⟩ := hcj
          have heq := (show ∀ j, j < i → ∀ w, _ from HSM) j hj
          unfold vv at heq
          dsimp only at heq p0 a0 p1 a1 p2 a2 p3 a3 p4 a4 p5 a5 p6 a6 p7 a7 p8 a8 p9 a9 p10 a10 hla
          have HKEEP : Hid (∀ (W0 W' : World), Kq W0 W' → W0.heap = wr.heap → (W'.cell? ⟨w.heap.size, 0, none⟩ = some (.slice (some ⟨g, 0, none⟩) n ca) ∧ W'.cell? ⟨g, j * 11, none⟩ = some (.int .i64 (F j).a.k) ∧ W'.cell? ⟨g, j * 11 + 1, none⟩ = some (.int .i64 (F j).a.m) ∧ W'.cell? ⟨g, j * 11 + 2, none⟩ = some (.float .f64 (F j).a.g) ∧ W'.cell? ⟨g, j * 11 + 3, none⟩ = some (.string (F j).a.x) ∧ W'.cell? ⟨g, j * 11 + 4, none⟩ = some (.int .i64 (F j).a.r) ∧ W'.cell? ⟨PB, 0, none⟩ = some (.int .i64 k) ∧ W'.cell? ⟨PB, 1, none⟩ = some (.int .i64 m) ∧ W'.cell? ⟨PB, 2, none⟩ = some (.float .f64 gg) ∧ W'.cell? ⟨PB, 3, none⟩ = some (.string x) ∧ W'.cell? ⟨PB, 4, none⟩ = some (.int .i64 r))) := by
            show ∀ (W0 W' : World), _
            intro W0 W' hb he
            have ea : ∀ j, W'.cell? ⟨g, j, none⟩ = wr.cell? ⟨g, j, none⟩ := fun j => World.cell?_of_block (by rw [hb.block g (by rw [he]; exact hla), he])
            have eb : ∀ j, W'.cell? ⟨w.heap.size, j, none⟩ = wr.cell? ⟨w.heap.size, j, none⟩ := fun j => World.cell?_of_block (by rw [hb.block w.heap.size (by rw [he]; exact hlb), he])
            have ep : ∀ j, W'.cell? ⟨PB, j, none⟩ = wr.cell? ⟨PB, j, none⟩ := fun j => World.cell?_of_block (by rw [hb.block PB (by rw [he]; exact hlp), he])
            simp only [ea, eb, ep]
            exact ⟨b0, a0, a1, a2, a3, a4, p0, p1, p2, p3, p4⟩
          have HY2 : Hid (Kq w3 wr ∧ ∀ j', j' < j → ¬ mk (F j').a = mk ⟨k, m, gg, x, r⟩) := hY
          have hjI : (j : Int) < (i : Int) := by omega
          have hjn : (j : Int) < (n : Int) := by omega
          have hjn' : j < n := by omega
          clear HY hY hP hla hlb hlp z3 B4 HSM p5 a5 p6 a6 p7 a7 p8 a8 p9 a9 p10 a10
          go_wp2_with fail
          go_region_held_law (fun W' => W'.cell? ⟨w.heap.size, 0, none⟩ = some (.slice (some ⟨g, 0, none⟩) n ca) ∧ W'.cell? ⟨g, j * 11, none⟩ = some (.int .i64 (F j).a.k) ∧ W'.cell? ⟨g, j * 11 + 1, none⟩ = some (.int .i64 (F j).a.m) ∧ W'.cell? ⟨g, j * 11 + 2, none⟩ = some (.float .f64 (F j).a.g) ∧ W'.cell? ⟨g, j * 11 + 3, none⟩ = some (.string (F j).a.x) ∧ W'.cell? ⟨g, j * 11 + 4, none⟩ = some (.int .i64 (F j).a.r) ∧ W'.cell? ⟨PB, 0, none⟩ = some (.int .i64 k) ∧ W'.cell? ⟨PB, 1, none⟩ = some (.int .i64 m) ∧ W'.cell? ⟨PB, 2, none⟩ = some (.float .f64 gg) ∧ W'.cell? ⟨PB, 3, none⟩ = some (.string x) ∧ W'.cell? ⟨PB, 4, none⟩ = some (.int .i64 r)) (first | exact ⟨b0, a0, a1, a2, a3, a4, p0, p1, p2, p3, p4⟩ | exact (show ∀ (W0 W' : World), _ from HKEEP) _ _ (Kq.of_grown hb5) rfl) ((go_at_call 41; refine (heq _).mono ?_; rintro e w5 ⟨rfl, hb5⟩))
          all_goals
            have hY := (show Kq w3 wr ∧ ∀ j', j' < j → ¬ mk (F j').a = mk ⟨k, m, gg, x, r⟩ from HY2)
            have K5 : Kq w3 w5 := hY.1.trans (Kq.trans (Kq.drew (Kq.refl _)) (Kq.of_grown hb5))
            by_cases hm : mk (F j).a = mk ⟨k, m, gg, x, r⟩
            · rw [dc_t hm]
              have HNT : Hid (¬ tok n F T) := (show ¬ pok F T i → ¬ tok n F T from HBAD) (fun h => (show _ ↔ pok F T i from HGO).2 h j hj hm)
              have KE : Hid (Kq w w5) := (show _ ∧ _ ∧ _ ∧ Kq w w3 ∧ Kq w1 w3 from HP3).2.2.2.1.trans K5
              clear HKEEP hb5 HY2 hY K5 HBAD HGOOD HFT HGO HP3 heq b0 a0 a1 a2 a3 a4 p0 p1 p2 p3 p4
              go_wp2_with fail
              go_ret
              exact ⟨by rw [dc_f (show ¬ tok n F T from HNT)]; rfl, KE⟩
            · rw [dc_f hm]
              have HN : Hid (Kq w3 w5 ∧ ∀ j', j' < j + 1 → ¬ mk (F j').a = mk ⟨k, m, gg, x, r⟩) := (⟨K5, fun j' hj' => by
                by_cases e : j' = j
                · subst e; exact hm
                · exact hY.2 j' (by omega)⟩ : _ ∧ _)
              clear HKEEP hb5 HY2 hY K5 HBAD HGOOD HFT HGO HP3 heq b0 a0 a1 a2 a3 a4 p0 p1 p2 p3 p4
              go_wp2_with fail
              go_roundw
              case rel => first | exact ⟨j + 1, by go_num, by omega, HN⟩ | ((repeat apply Exists.intro); exact ⟨⟨j + 1, by go_num, by omega, HN⟩, rfl⟩)
              case measure => simp [intOf]; omega
        · obtain rfl : j = i := by omega
          have hY := (show Kq w3 wr ∧ ∀ j', j' < j → ¬ mk (F j').a = mk ⟨k, m, gg, x, r⟩ from HY)
          have HN : Hid (Kq w1 wr ∧ ∀ j', j' < j + 1 → pok F T j') := (⟨(show _ ∧ _ ∧ _ ∧ Kq w w3 ∧ Kq w1 w3 from HP3).2.2.2.2.trans hY.1, (show pok F T j → ∀ j', j' < j + 1 → pok F T j' from HGOOD) ((show _ ↔ pok F T j from HGO).1 hY.2)⟩ : _ ∧ _)
          have hft := (show lst F (j + 1) = t from HFT)
          clear HY hY HSM HBAD HGOOD HGO HP3 HFT
          go_wp2_with fail
          go_roundw
          case rel => first | exact ⟨j + 1, by rw [hft], by go_num, by omega, HN⟩ | ((repeat apply Exists.intro); exact ⟨⟨j + 1, by rw [hft], by go_num, by omega, HN⟩, rfl⟩)
          case measure => simp [intOf]; omega
    · obtain rfl : i = n := by omega
      have hX := (show Kq w1 wr ∧ ∀ j, j < i → pok F T j from HX)
      have hA := (show (0 < i → pa = some ⟨g, 0, none⟩ ∧ i ≤ ca) ∧ (∀ j, j < i → Cp w ⟨g, j * 11, none⟩ (F j)) ∧ Tb i F ∧ i ≤ 500 ∧ 0 ≤ T ∧ T ≤ 1000000000000 from HA)
      have HNT : Hid (tok i F T) := (⟨hA.2.2.2.1, hA.2.2.2.2.1, hA.2.2.2.2.2, hX.2⟩ : tok i F T)
      have KE : Hid (Kq w wr) := (show Kq w w1 ∧ _ from HW1).1.trans hX.1
      clear hA HA hX HX HW1
      go_wp2_with fail
      go_ret
      exact ⟨by rw [dc_t (show tok i F T from HNT)]; rfl, KE⟩
end Go.Proofs.Ytfpidccjcemcjaa
