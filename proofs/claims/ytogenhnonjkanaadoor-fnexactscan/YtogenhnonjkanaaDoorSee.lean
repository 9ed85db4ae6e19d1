import Derived.Test.YtogenhnonjkanaaDoorSed
namespace Go.Proofs.YtogenhnonjkanaaDoor
open Go.ChangeShapes Go.WideShapes Go.ChangeAt Go.RowKit
set_option linter.unusedVariables false
/-- a scan's answer in its block -/
def Blk (W : World) (b : Nat) (o : Bool) (a : Int) (v : Value) : Prop := W.heap[b]? = some (.cells #[.bool o, .int .i64 a, v] 24 (0, 0))
theorem Blk.new (W : World) (o : Bool) (a : Int) (v : Value) : Blk (W.alloc (.cells #[.bool o, .int .i64 a, v] 24)) W.heap.size o a v := World.alloc_heap_new W _
theorem Blk.c0 {W : World} {b : Nat} {o : Bool} {a : Int} {v : Value} (h : Blk W b o a v) : W.cell? ⟨b, 0, none⟩ = some (.bool o) := by unfold Blk at h; simp [World.cell?, h]
theorem Blk.c1 {W : World} {b : Nat} {o : Bool} {a : Int} {v : Value} (h : Blk W b o a v) : W.cell? ⟨b, 1, none⟩ = some (.int .i64 a) := by unfold Blk at h; simp [World.cell?, h]
theorem Blk.c2 {W : World} {b : Nat} {o : Bool} {a : Int} {v : Value} (h : Blk W b o a v) : W.cell? ⟨b, 2, none⟩ = some v := by unfold Blk at h; simp [World.cell?, h]
theorem Blk.lt {W : World} {b : Nat} {o : Bool} {a : Int} {v : Value} (h : Blk W b o a v) : b < W.heap.size := (Array.getElem?_eq_some_iff.1 h).1
theorem Blk.kb {W W' : World} {b B : Nat} {o : Bool} {a : Int} {v : Value} (h : Blk W b o a v) (hk : Kb B W W') (hB : b ≠ B) : Blk W' b o a v := (hk.block b h.lt hB).trans h
theorem Kb.new (B : Nat) (W : World) (x : Obj) : Kb B W (W.alloc x) := Kb.of_below ((Below.refl _ W).alloc (Nat.le_refl _) _) (Nat.le_refl _)
theorem size_new (W : World) (x : Obj) : (W.alloc x).heap.size = W.heap.size + 1 := by simp
set_option maxRecDepth 100000 in
set_option maxHeartbeats 4000000 in
theorem law_at (T : ByteArray) (hT : (T.size : Int) ≤ 1048576) (o : Bool) (a : Int) (n : Nat) (A : Nat → Tv) (hn : n ≤ 65536)
    (H5 : ∀ w, Calls Tryd.prog 5 #[.string T] w fun e w' => Below w.heap.size w w' ∧ ∃ v, e = .returned (.agg #[.bool o, .int .i64 a, v]) ∧ Own w' w.heap.size v n A)
    (H6 : ∀ w, Gd w → Calls Tryd.prog 6 #[.string T] w fun e w' => Rd.Kept w w' ∧ ∃ v, e = .returned (.agg #[.bool o, .int .i64 a, v]) ∧ Own w' w.heap.size v n A) (w : World) (hg : Gd w) :
    Calls Tryd.prog 3 #[.string T] w fun e w' => e = .returned (.bool true) ∧ Rd.Kept w w' := by
  have H5w := H5 w
  have HH : Hid (∀ w, Gd w → Calls Tryd.prog 6 #[.string T] w fun e w' => Rd.Kept w w' ∧ ∃ v, e = .returned (.agg #[.bool o, .int .i64 a, v]) ∧ Own w' w.heap.size v n A) := H6
  have HG : Hid (Gd w) := hg
  have HN : Hid (n ≤ 65536) := hn
  have hk0 : (0 : Int) ≤ 1 + 6 * (n : Int) := by omega
  clear H5 H6 hg hn
  go_enter Tryd.func3, Tryd.ntmps3
  go_wp2_with fail
  refine H5w.mono ?_
  rintro e w1 ⟨hb1, v1, rfl, g1, hr1, hf1⟩
  obtain ⟨p1, k1, hv1⟩ : ∃ p c, v1 = .slice p n c := by obtain ⟨p, c, h, _⟩ := hr1; exact ⟨p, c, h⟩
  subst hv1
  obtain ⟨W1, hW1, HB1, HK1, HR1, HZ1⟩ : ∃ W1, W1 = w1.alloc (.cells #[.bool o, .int .i64 a, .slice p1 n k1] 24) ∧ Hid (Blk W1 w1.heap.size o a (.slice p1 n k1)) ∧ Hid (∀ B, Kb B w W1) ∧ Hid (RowC W1 (.slice p1 n k1) g1 n A) ∧ Hid (W1.heap.size = w1.heap.size + 1) :=
    ⟨_, rfl, Blk.new _ _ _ _, (fun B => (Kb.of_below hb1 (Nat.le_refl _)).trans (Kb.new B _ _) : ∀ B, Kb B w _), hr1.kb (Kb.new (g1 + 1) _ _) (fun _ => by omega), size_new _ _⟩
  have HG1 : Gd W1 := (show Gd w from HG).kb (B := w.heap.size) HG.size (HK1 w.heap.size)
  have h6 := (show ∀ w, Gd w → Calls Tryd.prog 6 #[.string T] w fun e w' => Rd.Kept w w' ∧ ∃ v, e = .returned (.agg #[.bool o, .int .i64 a, v]) ∧ Own w' w.heap.size v n A from HH) W1 HG1
  clear H5w hb1 hr1 hf1 HG1
  go_wp2_with fail
  rw [← hW1]
  clear hW1
  refine h6.mono ?_
  rintro e w2 ⟨hk2, v2, rfl, g2, hr2, hf2⟩
  obtain ⟨p2, k2, hv2⟩ : ∃ p c, v2 = .slice p n c := by obtain ⟨p, c, h, _⟩ := hr2; exact ⟨p, c, h⟩
  subst hv2
  have HS12 : Hid (w1.heap.size < w2.heap.size) := by
    have := (Kb.of_kept (B := 0) hk2).size
    have h1 := (show W1.heap.size = w1.heap.size + 1 from HZ1)
    show w1.heap.size < w2.heap.size
    omega
  obtain ⟨W2, hW2, HB2, HK2, HR2, HF2, HZ2⟩ : ∃ W2, W2 = w2.alloc (.cells #[.bool o, .int .i64 a, .slice p2 n k2] 24) ∧ Hid (Blk W2 w2.heap.size o a (.slice p2 n k2)) ∧ Hid (∀ B, Kb B W1 W2) ∧ Hid (RowC W2 (.slice p2 n k2) g2 n A) ∧ Hid (0 < n → W1.heap.size ≤ g2 ∧ g2 < w2.heap.size ∧ ∀ j, W2.frozen? ⟨g2, j, none⟩ = false) ∧ Hid (W2.heap.size = w2.heap.size + 1) := by
    refine ⟨_, rfl, Blk.new _ _ _ _, (fun B => (Kb.of_kept hk2).trans (Kb.new B _ _) : ∀ B, Kb B W1 _), hr2.kb (Kb.new (g2 + 1) _ _) (fun _ => by omega), (fun h0 => ⟨(hf2 h0).1, hr2.lt h0, fun j => ?_⟩ : 0 < n → _), size_new _ _⟩
    rw [World.frozen?_of_block ((Kb.new (g2 + 1) w2 _).block g2 (hr2.lt h0) (by omega))]
    exact (hf2 h0).2 j
  clear h6 hk2 hr2 hf2
  have hQ1 : Blk W2 w1.heap.size o a (.slice p1 n k1) := (show Blk W1 w1.heap.size o a (.slice p1 n k1) from HB1).kb (HK2 (w1.heap.size + 1)) (by omega)
  have q10 := hQ1.c0
  have q11 := hQ1.c1
  have q12 := hQ1.c2
  have q20 := HB2.c0
  have q21 := HB2.c1
  have q22 := HB2.c2
  have hrA : RowC W2 (.slice p1 n k1) g1 n A := (show RowC W1 (.slice p1 n k1) g1 n A from HR1).kb (HK2 (g1 + 1)) (fun _ => by omega)
  have h7 := eq_scan o a W2 (show RowC W2 (.slice p2 n k2) g2 n A from HR2) hrA HN
  clear hQ1 hrA
  go_upto_region 5 with fail
  rw [← hW2]
  clear hW2
  go_wp2_with fail
  refine h7.mono ?_
  rintro e w3 ⟨rfl, hb3⟩
  have hQ2 : Blk w3 w2.heap.size o a (.slice p2 n k2) := (show Blk W2 w2.heap.size o a (.slice p2 n k2) from HB2).kb (Kb.of_below hb3 (Nat.le_refl _) : Kb (w2.heap.size + 1) W2 w3) (by omega)
  have hR3 : RowC w3 (.slice p2 n k2) g2 n A := (show RowC W2 (.slice p2 n k2) g2 n A from HR2).kb (Kb.of_below hb3 (Nat.le_refl _) : Kb (g2 + 1) W2 w3) (fun _ => by omega)
  have h8 := mark_scan o a w3 hR3 (fun h0 j => by rw [World.frozen?_of_block (hb3.block g2 ((show RowC W2 (.slice p2 n k2) g2 n A from HR2).lt h0))]; exact (HF2 h0).2.2 j) HN
  have HB3 : Hid (Below W2.heap.size W2 w3 ∧ Blk w3 w2.heap.size o a (.slice p2 n k2)) := (⟨hb3, hQ2⟩ : _ ∧ _)
  clear h7 hb3 q10 q11 q12 q20 q21 q22
  have q20 := hQ2.c0
  have q21 := hQ2.c1
  have q22 := hQ2.c2
  clear hQ2 hR3
  go_wp2_with fail
  refine h8.mono ?_
  rintro e w4 ⟨rfl, hk4, hz4, hr4⟩
  obtain ⟨G, hG0, hG1, hG2⟩ : ∃ G, Kb G w3 w4 ∧ W1.heap.size ≤ G ∧ G ≠ w2.heap.size := by
    by_cases h0 : n = 0
    · have h2 := (HK2 0).size
      have h1 := (show W2.heap.size = w2.heap.size + 1 from HZ2)
      exact ⟨W2.heap.size, hz4 h0 _, h2, by omega⟩
    · have := (show 0 < n → W1.heap.size ≤ g2 ∧ g2 < w2.heap.size ∧ _ from HF2) (by omega)
      exact ⟨g2, hk4, this.1, by omega⟩
  have HK4 : Hid (Kb G W2 w4 ∧ W1.heap.size ≤ G ∧ G ≠ w2.heap.size) := (⟨(Kb.of_below HB3.1 (Nat.le_refl _)).trans hG0, hG1, hG2⟩ : _ ∧ _ ∧ _)
  have hQ4 : Blk w4 w2.heap.size o a (.slice p2 n k2) := (show Blk w3 w2.heap.size o a (.slice p2 n k2) from HB3.2).kb hG0 hG2.symm
  have h9 := held_scan o a w4 hr4 HN
  have HR4 : Hid (RowC w4 (.slice p2 n k2) g2 n mkT) := hr4
  have HQ4 : Hid (Blk w4 w2.heap.size o a (.slice p2 n k2)) := hQ4
  clear h8 q20 q21 q22 hk4 hz4 hr4 hG0 hG1 hG2 HB3
  have q20 := hQ4.c0
  have q21 := hQ4.c1
  have q22 := hQ4.c2
  clear hQ4
  go_wp2_with fail
  refine h9.mono ?_
  rintro e w5 ⟨rfl, hb5⟩
  have HK5 : Hid (∀ B, Kb B w4 w5) := (fun B => Kb.of_below hb5 (Nat.le_refl _) : ∀ B, Kb B w4 w5)
  have hGd5 : Gd w5 := by
    have h8 : 8 ≤ G := by
      have := (HK1 0).size
      have := HG.size
      have := HK4.2.1
      omega
    exact (show Gd w from HG).kb h8 ((((HK1 G).trans (HK2 G)).trans HK4.1).trans (HK5 G))
  have h6 := (show ∀ w, Gd w → Calls Tryd.prog 6 #[.string T] w fun e w' => Rd.Kept w w' ∧ ∃ v, e = .returned (.agg #[.bool o, .int .i64 a, v]) ∧ Own w' w.heap.size v n A from HH) w5 hGd5
  clear h9 hb5 q20 q21 q22 hGd5
  go_wp2_with fail
  refine h6.mono ?_
  rintro e w6 ⟨hk6, v3, rfl, g3, hr3, hf3⟩
  obtain ⟨p3, k3, hv3⟩ : ∃ p c, v3 = .slice p n c := by obtain ⟨p, c, h, _⟩ := hr3; exact ⟨p, c, h⟩
  subst hv3
  obtain ⟨W6, hW6, HB6, HK6, HR6⟩ : ∃ W6, W6 = w6.alloc (.cells #[.bool o, .int .i64 a, .slice p3 n k3] 24) ∧ Hid (Blk W6 w6.heap.size o a (.slice p3 n k3)) ∧ Hid (∀ B, Kb B w4 W6) ∧ Hid (RowC W6 (.slice p3 n k3) g3 n A) :=
    ⟨_, rfl, Blk.new _ _ _ _, (fun B => ((HK5 B).trans (Kb.of_kept hk6)).trans (Kb.new B _ _) : ∀ B, Kb B w4 _), hr3.kb (Kb.new (g3 + 1) _ _) (fun _ => by omega)⟩
  have hlt1 : w1.heap.size < G := by
    have h1 := (show W1.heap.size = w1.heap.size + 1 from HZ1)
    have h2 := HK4.2.1
    omega
  have HKW : Hid (Kb G W1 W6) := ((HK2 G).trans HK4.1).trans (HK6 G)
  have hQ1 : Blk W6 w1.heap.size o a (.slice p1 n k1) := (show Blk W1 w1.heap.size o a (.slice p1 n k1) from HB1).kb HKW (by omega)
  have q10 := hQ1.c0
  have q11 := hQ1.c1
  have q12 := hQ1.c2
  have q30 := HB6.c0
  have q31 := HB6.c1
  have q32 := HB6.c2
  have hrA : RowC W6 (.slice p1 n k1) g1 n A := (show RowC W1 (.slice p1 n k1) g1 n A from HR1).kb HKW (fun h0 => by
    have := (show RowC W1 (.slice p1 n k1) g1 n A from HR1).lt h0
    have := HK4.2.1
    omega)
  have h7 := eq_scan o a W6 (show RowC W6 (.slice p3 n k3) g3 n A from HR6) hrA HN
  clear h6 hk6 hr3 hf3 hQ1 hrA hlt1
  go_upto_region 16 with fail
  rw [← hW6]
  clear hW6
  go_wp2_with fail
  refine h7.mono ?_
  rintro e w7 ⟨rfl, hb7⟩
  have HK7 : Hid (∀ B, Kb B w4 w7) := (fun B => (HK6 B).trans (Kb.of_below hb7 (Nat.le_refl _)) : ∀ B, Kb B w4 w7)
  have hQ7 : Blk w7 w2.heap.size o a (.slice p2 n k2) := (show Blk w4 w2.heap.size o a (.slice p2 n k2) from HQ4).kb (HK7 (w2.heap.size + 1)) (by omega)
  have hR7 : RowC w7 (.slice p2 n k2) g2 n mkT := (show RowC w4 (.slice p2 n k2) g2 n mkT from HR4).kb (HK7 (g2 + 1)) (fun _ => by omega)
  have h9 := held_scan o a w7 hR7 HN
  clear h7 q10 q11 q12 q30 q31 q32 hb7 hR7
  have q20 := hQ7.c0
  have q21 := hQ7.c1
  have q22 := hQ7.c2
  clear hQ7
  go_wp2_with fail
  refine h9.mono ?_
  rintro e w8 ⟨rfl, hb8⟩
  have HEND : Hid (Rd.Kept w w8) := by
    have h1 := (HK1 0).size
    have h2 := HK4.2.1
    exact Kb.kept (B := G) (((((HK1 G).trans (HK2 G)).trans HK4.1).trans (HK7 G)).trans (Kb.of_below hb8 (Nat.le_refl _))) (by omega)
  clear h9 q20 q21 q22 hb8
  go_wp2_with fail
  go_ret
  exact ⟨rfl, HEND⟩
end Go.Proofs.YtogenhnonjkanaaDoor
