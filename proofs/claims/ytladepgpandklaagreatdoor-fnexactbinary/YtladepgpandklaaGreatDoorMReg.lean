import Derived.Deep.RegionHeldLaw
import Derived.Deep.AppendLies
import Derived.Test.YtladepgpandklaaGreatDoorMVdm
import Derived.Test.YtladepgpandklaaGreatDoorMVdn
import Derived.Test.YtladepgpandklaaGreatDoorMVcg
namespace Go.Proofs.YtladepgpandklaaGreatDoor
section
variable {P : Program} {ops : Array Oper} {Q : Exit → Act → World → Prop} {md : Region.Mode} {S : World → Prop} {z : Nat}
/-- in whatever order the operations come up, S holds behind each of them but number z -/
def AnyL (P : Program) (md : Region.Mode) (ops : Array Oper) (Q : Exit → Act → World → Prop) (S : World → Prop) (z : Nat) : Nat → Array Bool → Act → World → Prop
  | 0, listed, a, w => Region.ready md ops listed = [] ∧ Q .normal a w
  | k + 1, listed, a, w => (Region.ready md ops listed = [] → Q .normal a w) ∧
      ∀ i ∈ Region.ready md ops listed, wpOp P ops Q i (fun a' w' => (i ≠ z → S w') ∧ AnyL P md ops Q S z k (listed.setIfInBounds i true) a' w') a w
theorem AnyL.any : ∀ (k : Nat) (listed : Array Bool) (a : Act) (w : World), AnyL P md ops Q S z k listed a w → wpAny P md ops Q k listed a w
  | 0, _, _, _, h => h
  | k + 1, _, _, _, h => ⟨h.1, fun i hi => wpOp_mono (fun a' w' g => AnyL.any k _ a' w' g.2) (h.2 i hi)⟩
/-- an operation that yields one value in every world that meets S may come up first -/
theorem AnyL.first {i : Nat} {oi : Oper} {v : Value} (hi : ops[i]? = some oi) (hsel : ∀ (j : Nat) (o : Oper) cs b, ops[j]? = some o → o.op ≠ .select cs b) (hQ : ∀ c a w, Q (.panic c) (a.put oi.dst v) w → Q (.panic c) a w) (hz : ∀ oz, ops[z]? = some oz → ∃ e ∈ oz.after, Region.binds md e = true ∧ e.on = i) (k : Nat) :
    ∀ (listed : Array Bool) (a : Act) (w : World), (∀ j oj, ops[j]? = some oj → j ≠ i → listed.getD j true = false → (∀ e ∈ oj.after, Region.binds md e = true → e.on ≠ i) → oi.apart ops oj = true) →
      i ∈ Region.ready md ops listed → YieldsIf P ops S oi v a → S w → AnyL P md ops Q S z k (listed.setIfInBounds i true) (a.put oi.dst v) w → AnyL P md ops Q S z (k + 1) listed a w := by
  induction k with
  | zero =>
    intro listed a w _ hr hy hS H
    refine ⟨fun h => absurd hr (by rw [h]; simp), fun j hj => ?_⟩
    by_cases e : j = i
    · subst e
      exact hy.wpOp hi hS ⟨fun _ => hS, H⟩
    · exact absurd (ready_mono hj e) (by rw [H.1]; simp)
  | succ k ih =>
    intro listed a w hfree hr hy hS H
    refine ⟨fun h => absurd hr (by rw [h]; simp), fun j hj => ?_⟩
    by_cases e : j = i
    · subst e
      exact hy.wpOp hi hS ⟨fun _ => hS, H⟩
    · have h1 := H.2 j (ready_mono hj e)
      obtain ⟨hun, oj, hoj, hall⟩ := mem_ready.1 hj
      have hno : ∀ x ∈ oj.after, Region.binds md x = true → x.on ≠ i := by
        intro x hx hb heq
        have q1 := hall x hx hb
        have q0 := (mem_ready.1 hr).1
        rw [heq] at q1
        rcases Nat.lt_or_ge i listed.size with l | l
        · simp [l] at q0 q1
          rw [q0] at q1
          cases q1
        · simp [Array.getElem?_eq_none l] at q1
      have h2 := wpOp_putIf hoj (hfree j oj hoj e hun hno) (fun cs b => hsel i oi cs b hi) (fun cs b => hsel j oj cs b hoj) hQ hy h1
      have hjz : j ≠ z := by
        rintro rfl
        obtain ⟨x, x1, x2, x3⟩ := hz oj hoj
        exact hno x x1 x2 x3
      refine wpOp_mono (fun a' w' h3 => ⟨fun _ => h3.2.1 hjz, ih (listed.setIfInBounds j true) a' w' ?_ (ready_mono hr (Ne.symm e)) h3.1 (h3.2.1 hjz) ?_⟩) h2
      · intro m om hm hmi hu hn
        refine hfree m om hm hmi ?_ hn
        by_cases e2 : j = m
        · subst e2; exact hun
        · rw [getD_set_ne true e2] at hu; exact hu
      · rw [Array.setIfInBounds_comm _ _ e]
        exact h3.2.2
theorem AnyL.take {i : Nat} {oi : Oper} {v : Value} {k : Nat} {listed : Array Bool} {a : Act} {w : World} (hi : ops[i]? = some oi)
    (hs : Region.noSelect ops = true) (hf : Region.free md ops listed i = true) (hr : (Region.ready md ops listed).contains i = true)
    (hQ : ∀ c a w, Q (.panic c) (a.put oi.dst v) w → Q (.panic c) a w) (hz : (ops[z]?).all (fun o => o.after.any fun e => Region.binds md e && e.on == i) = true) (hw : Region.wanted oi (yielded ops a.tmps) = true) (hS : S w) (hy : ∀ w, S w → (execOp a.eval oi).run P w = .ok (.value v) w)
    (h : AnyL P md ops Q S z k (listed.setIfInBounds i true) (a.put oi.dst v) w) : AnyL P md ops Q S z (k + 1) listed a w :=
  AnyL.first hi (Region.noSelect_spec hs) hQ (fun oz ho => by
    rw [ho] at hz
    simp at hz
    obtain ⟨m, hm, h1, h2⟩ := hz
    exact ⟨_, Array.getElem_mem hm, h1, h2⟩) k listed a w (Region.free_spec hi hf) (by simpa using hr) (Or.inl ⟨hw, hy⟩) hS h
/-- one operation alone may come up -/
theorem AnyL.one {i : Nat} {o : Oper} {k : Nat} {listed : Array Bool} {a : Act} {w : World} (hr : Region.ready md ops listed = [i]) (ho : ops[i]? = some o) (hw : Region.wanted o (yielded ops a.tmps) = true)
    (h : ∀ K : Act → World → Prop, Shut (∀ a' w', (i ≠ z → S w') → AnyL P md ops Q S z k (listed.setIfInBounds i true) a' w' → K a' w') → Oper.wp P o a w K Q) : AnyL P md ops Q S z (k + 1) listed a w := by
  refine ⟨fun h => absurd h (by rw [hr]; simp), fun j hj => ?_⟩
  rw [hr] at hj
  obtain rfl : j = i := by simpa using hj
  unfold wpOp
  simp only [ho, hw, if_true]
  exact Or.inl (h _ (fun a' w' h1 h2 => ⟨h1, h2⟩))
theorem AnyL.region {id : Nat} {a : Act} {w : World} (hm : P.follows .mixedOrders = true) (h : AnyL P .any ops Q S z ops.size (Array.replicate ops.size false) a w.drew) : (Code.region id ops true).wp P Q a w :=
  wp_region_any hm (AnyL.any _ _ _ _ h)
/-- the same two moves, the operations as a list: so the one that is meant is written out -/
theorem AnyL.takeAt (i : Nat) (v : Value) {l : List Oper} {oi : Oper} {k : Nat} {listed : Array Bool} {a : Act} {w : World} (hi : l[i]? = some oi)
    (hs : Region.noSelect l.toArray = true) (hf : Region.free md l.toArray listed i = true) (hr : (Region.ready md l.toArray listed).contains i = true)
    (hz : (l.toArray[z]?).all (fun o => o.after.any fun e => Region.binds md e && e.on == i) = true)
    (hQ : ∀ c a w, Q (.panic c) (a.put oi.dst v) w → Q (.panic c) a w) (hw : Region.wanted oi (yielded l.toArray a.tmps) = true) (hS : S w) (hy : ∀ w, S w → (execOp a.eval oi).run P w = .ok (.value v) w)
    (h : AnyL P md l.toArray Q S z k (listed.setIfInBounds i true) (a.put oi.dst v) w) : AnyL P md l.toArray Q S z (k + 1) listed a w :=
  AnyL.take (by simpa using hi) hs hf hr hQ hz hw hS hy h
theorem AnyL.oneAt (i : Nat) {l : List Oper} {o : Oper} {k : Nat} {listed : Array Bool} {a : Act} {w : World} (ho : l[i]? = some o) (hr : Region.ready md l.toArray listed = [i]) (hw : Region.wanted o (yielded l.toArray a.tmps) = true)
    (h : ∀ K : Act → World → Prop, Shut (∀ a' w', (i ≠ z → S w') → AnyL P md l.toArray Q S z k (listed.setIfInBounds i true) a' w' → K a' w') → Oper.wp P o a w K Q) : AnyL P md l.toArray Q S z (k + 1) listed a w :=
  AnyL.one hr (by simpa using ho) hw h
theorem AnyL.done {listed : Array Bool} {a : Act} {w : World} (hr : Region.ready md ops listed = []) (h : Q .normal a w) : AnyL P md ops Q S z 0 listed a w := ⟨hr, h⟩
end
end Go.Proofs.YtladepgpandklaaGreatDoor
namespace Go.Proofs.YtladepgpandklaaGreatDoor
open Go.ChangeShapes Go.WideShapes Go.ChangeAt Go.RowKit
set_option linter.unusedVariables false
set_option maxRecDepth 100000
theorem Rv.kq {a w : World} {B : Nat} (h : Rv a B) (g : Kq a w) : Rv w B := ⟨g.cell h.c0, g.cell h.c1, g.cell h.c2, g.cell h.c3, g.cell h.c4, g.cell h.c5, fun j => (World.frozen?_of_block (a := ⟨B, j, none⟩) (g.block B (lt_of_cell h.c0))).trans (h.fz j)⟩
theorem Kq.set {w W : World} {B o : Nat} (h : Kq w W) (hB : w.heap.size ≤ B) (v : Value) : Kq w (W.setCell ⟨B, o, none⟩ v) :=
  Kq.mk (by simpa [World.setCell] using h.os) (by simpa [World.setCell] using h.output) (by rw [World.size_setCell]; exact h.size) (fun i hi => by rw [Below.heap_setCell _ _ _ _ (by show i ≠ B; omega)]; exact h.block i hi)
theorem s6_kq {w W : World} {B : Nat} (h : Kq w W) (hB : w.heap.size ≤ B) (a0 a1 a2 : Int) (a3 : Nat) (a4 : ByteArray) (a5 : Int) : Kq w (s6 W B a0 a1 a2 a3 a4 a5) :=
  (((((h.set hB _).set hB _).set hB _).set hB _).set hB _).set hB _
/-- two values and an answer that is not yet written in three blocks -/
structure Bw (w W : World) (B : Nat) (a b : Vv) : Prop where
  kq : Kq w W
  a : Vc W B a
  b : Vc W (B + 1) b
  r : Rv W (B + 2)
theorem Bw.step {w W W' : World} {B : Nat} {a b : Vv} (h : Bw w W B a b) (k : Kq W W') : Bw w W' B a b := ⟨h.kq.trans k, h.a.kq k, h.b.kq k, h.r.kq k⟩
theorem Bw.new (w : World) (k m : Int) (g : Nat) (x : ByteArray) (r : Int) (l n : Int) (h : Nat) (y : ByteArray) (s : Int) (t t' : TypeId) :
    Bw w (((w.alloc (.cells #[.int .i64 k, .int .i64 m, .float .f64 g, .string x, .int .i64 r] t)).alloc (.cells #[.int .i64 l, .int .i64 n, .float .f64 h, .string y, .int .i64 s] t)).alloc (.cells #[.int .i64 0, .int .i64 0, .int .i64 0, .float .f64 0, .string ⟨#[]⟩, .int .i64 0] t')) w.heap.size ⟨k, m, g, x, r⟩ ⟨l, n, h, y, s⟩ := by
  have g1 : ∀ (W : World) c t, Grown W (W.alloc (.cells c t)) := fun W c t => Grown.alloc (Grown.refl _) _ _
  refine ⟨.of_grown (Grown.trans (g1 _ _ _) (Grown.trans (g1 _ _ _) (g1 _ _ _))), Vc.grown (Vc.grown (Vc.new w k m g x r t) (g1 _ _ _)) (g1 _ _ _), ?_, ?_⟩
  · have q := Vc.new (w.alloc (.cells #[.int .i64 k, .int .i64 m, .float .f64 g, .string x, .int .i64 r] t)) l n h y s t
    rw [World.size_alloc] at q
    exact q.grown (g1 _ _ _)
  · have q := Rv.new ((w.alloc (.cells #[.int .i64 k, .int .i64 m, .float .f64 g, .string x, .int .i64 r] t)).alloc (.cells #[.int .i64 l, .int .i64 n, .float .f64 h, .string y, .int .i64 s] t)) t'
    rw [World.size_alloc, World.size_alloc] at q
    exact q
set_option maxHeartbeats 4000000 in
theorem im_jo_a (a b : Vv) (ja : ¬ jn a) (w : World) : Calls Tryz.prog 24 #[vv a, vv b] w fun e w' => e = .returned (va 1 ⟨0, 0, 0, ⟨#[]⟩, 0⟩) ∧ Kq w w' := by
  have JA := fun w => im_jn a w
  rw [dc_f ja] at JA
  have HF := fun w => im_fail 1 w
  obtain ⟨k, m, g, x, r⟩ := a
  obtain ⟨l, n, h, y, s⟩ := b
  unfold vv at *
  try unfold va at *
  try dsimp only at *
  clear ja
  have hst : ∀ (a : Addr) (n : Nat) (m : Mode) (w : World), (store a (.float .f64 n) m).run Tryz.prog w = stored Tryz.prog w a (.float .f64 n) m := fun a n m w => run_store _ _ _ _ _ rfl
  go_enter Tryz.func24, Tryz.ntmps24
  go_wp2_with fail
  refine (JA _).mono ?_
  rintro e w1 ⟨rfl, g1⟩
  have S1 : Hid (Bw w w1 w.heap.size ⟨k, m, g, x, r⟩ ⟨l, n, h, y, s⟩) := Bw.step (Bw.new w _ _ _ _ _ _ _ _ _ _ _ _) (.of_grown g1)
  clear g1
  obtain ⟨_, ⟨c0, c1, c2, c3, c4⟩, ⟨d0, d1, d2, d3, d4⟩, ⟨r0, r1, r2, r3, r4, r5, rz⟩⟩ := (show Bw w w1 w.heap.size ⟨k, m, g, x, r⟩ ⟨l, n, h, y, s⟩ from S1)
  go_wp2_with fail
  refine (HF _).mono ?_
  rintro e w2 ⟨rfl, g2⟩
  have S2 : Hid (Bw w w2 w.heap.size ⟨k, m, g, x, r⟩ ⟨l, n, h, y, s⟩) := Bw.step S1 (.of_grown g2)
  clear g2 S1 c0 c1 c2 c3 c4 d0 d1 d2 d3 d4 r0 r1 r2 r3 r4 r5 rz
  obtain ⟨_, ⟨c0, c1, c2, c3, c4⟩, ⟨d0, d1, d2, d3, d4⟩, ⟨r0, r1, r2, r3, r4, r5, rz⟩⟩ := (show Bw w w2 w.heap.size ⟨k, m, g, x, r⟩ ⟨l, n, h, y, s⟩ from S2)
  go_wp2_with fail
  obtain ⟨e0, e1, e2, e3, e4, e5⟩ := rv_set' (show Bw w w2 w.heap.size ⟨k, m, g, x, r⟩ ⟨l, n, h, y, s⟩ from S2).r 1 0 0 0 ⟨#[]⟩ 0
  have GF : Hid (Kq w (s6 w2 (w.heap.size + 2) 1 0 0 0 ⟨#[]⟩ 0)) := s6_kq (show Bw w w2 w.heap.size ⟨k, m, g, x, r⟩ ⟨l, n, h, y, s⟩ from S2).kq (by omega) 1 0 0 0 ⟨#[]⟩ 0
  obtain ⟨WF, hWF⟩ : ∃ WF, WF = s6 w2 (w.heap.size + 2) 1 0 0 0 ⟨#[]⟩ 0 := ⟨_, rfl⟩
  rw [← hWF] at e0 e1 e2 e3 e4 e5 GF
  have hWF' := hWF
  unfold s6 at hWF'
  rw [← hWF']
  clear hWF hWF'
  refine bodyPost_ret (by simp [results, Tryz.results24, go_sem, e0, e1, e2, e3, e4, e5]; rfl) rfl ?_
  exact ⟨rfl, GF⟩
set_option maxHeartbeats 4000000 in
theorem im_jo_b (a b : Vv) (ja : jn a) (jb : ¬ jn b) (w : World) : Calls Tryz.prog 24 #[vv a, vv b] w fun e w' => e = .returned (va 1 ⟨0, 0, 0, ⟨#[]⟩, 0⟩) ∧ Kq w w' := by
  have JA := fun w => im_jn a w
  rw [dc_t ja] at JA
  have JB := fun w => im_jn b w
  rw [dc_f jb] at JB
  have HF := fun w => im_fail 1 w
  obtain ⟨k, m, g, x, r⟩ := a
  obtain ⟨l, n, h, y, s⟩ := b
  unfold vv at *
  try unfold va at *
  try dsimp only at *
  clear ja jb
  have hst : ∀ (a : Addr) (n : Nat) (m : Mode) (w : World), (store a (.float .f64 n) m).run Tryz.prog w = stored Tryz.prog w a (.float .f64 n) m := fun a n m w => run_store _ _ _ _ _ rfl
  go_enter Tryz.func24, Tryz.ntmps24
  go_wp2_with fail
  refine (JA _).mono ?_
  rintro e w1 ⟨rfl, g1⟩
  have S1 : Hid (Bw w w1 w.heap.size ⟨k, m, g, x, r⟩ ⟨l, n, h, y, s⟩) := Bw.step (Bw.new w _ _ _ _ _ _ _ _ _ _ _ _) (.of_grown g1)
  clear g1
  obtain ⟨_, ⟨c0, c1, c2, c3, c4⟩, ⟨d0, d1, d2, d3, d4⟩, ⟨r0, r1, r2, r3, r4, r5, rz⟩⟩ := (show Bw w w1 w.heap.size ⟨k, m, g, x, r⟩ ⟨l, n, h, y, s⟩ from S1)
  go_wp2_with fail
  refine (JB _).mono ?_
  rintro e w2 ⟨rfl, g2⟩
  have S2 : Hid (Bw w w2 w.heap.size ⟨k, m, g, x, r⟩ ⟨l, n, h, y, s⟩) := Bw.step S1 (.of_grown g2)
  clear g2 S1 c0 c1 c2 c3 c4 d0 d1 d2 d3 d4 r0 r1 r2 r3 r4 r5 rz
  obtain ⟨_, ⟨c0, c1, c2, c3, c4⟩, ⟨d0, d1, d2, d3, d4⟩, ⟨r0, r1, r2, r3, r4, r5, rz⟩⟩ := (show Bw w w2 w.heap.size ⟨k, m, g, x, r⟩ ⟨l, n, h, y, s⟩ from S2)
  go_wp2_with fail
  refine (HF _).mono ?_
  rintro e w3 ⟨rfl, g3⟩
  have S3 : Hid (Bw w w3 w.heap.size ⟨k, m, g, x, r⟩ ⟨l, n, h, y, s⟩) := Bw.step S2 (.of_grown g3)
  clear g3 S2 c0 c1 c2 c3 c4 d0 d1 d2 d3 d4 r0 r1 r2 r3 r4 r5 rz
  obtain ⟨_, ⟨c0, c1, c2, c3, c4⟩, ⟨d0, d1, d2, d3, d4⟩, ⟨r0, r1, r2, r3, r4, r5, rz⟩⟩ := (show Bw w w3 w.heap.size ⟨k, m, g, x, r⟩ ⟨l, n, h, y, s⟩ from S3)
  go_wp2_with fail
  obtain ⟨e0, e1, e2, e3, e4, e5⟩ := rv_set' (show Bw w w3 w.heap.size ⟨k, m, g, x, r⟩ ⟨l, n, h, y, s⟩ from S3).r 1 0 0 0 ⟨#[]⟩ 0
  have GF : Hid (Kq w (s6 w3 (w.heap.size + 2) 1 0 0 0 ⟨#[]⟩ 0)) := s6_kq (show Bw w w3 w.heap.size ⟨k, m, g, x, r⟩ ⟨l, n, h, y, s⟩ from S3).kq (by omega) 1 0 0 0 ⟨#[]⟩ 0
  obtain ⟨WF, hWF⟩ : ∃ WF, WF = s6 w3 (w.heap.size + 2) 1 0 0 0 ⟨#[]⟩ 0 := ⟨_, rfl⟩
  rw [← hWF] at e0 e1 e2 e3 e4 e5 GF
  have hWF' := hWF
  unfold s6 at hWF'
  rw [← hWF']
  clear hWF hWF'
  refine bodyPost_ret (by simp [results, Tryz.results24, go_sem, e0, e1, e2, e3, e4, e5]; rfl) rfl ?_
  exact ⟨rfl, GF⟩
end Go.Proofs.YtladepgpandklaaGreatDoor
namespace Go.Proofs.YtladepgpandklaaGreatDoor
open Go.ChangeShapes Go.WideShapes Go.ChangeAt Go.RowKit
set_option linter.unusedVariables false
set_option maxRecDepth 100000
set_option maxHeartbeats 4000000 in
theorem im_jo_l (a b : Vv) (ja : jn a) (jb : jn b) (TA TB : ByteArray) (HTA : (∀ w, Tb w → Calls Tryz.prog 46 #[vv a] w fun e w' => e = .returned (.string TA) ∧ Kq w w')) (HTB : (∀ w, Tb w → Calls Tryz.prog 46 #[vv b] w fun e w' => e = .returned (.string TB) ∧ Kq w w')) (zA : TA.size ≤ 4000) (zB : TB.size ≤ 4000) (hz : 4000 < (TA.size : Int) + (TB.size : Int)) (w : World) (hT : Tb w) : Calls Tryz.prog 24 #[vv a, vv b] w fun e w' => e = .returned (va 4 ⟨0, 0, 0, ⟨#[]⟩, 0⟩) ∧ Kq w w' := by
  have JA := fun w => im_jn a w
  rw [dc_t ja] at JA
  have JB := fun w => im_jn b w
  rw [dc_t jb] at JB
  have HF := fun w => im_fail 4 w
  have hz2 : 4000 < ((TA ++ TB).size : Int) := by rw [ByteArray.size_append]; omega
  have hcat : TA.size + TB.size ≤ 9223372036854775807 := by omega
  have hct2 : ¬ 9223372036854775807 < TA.size + TB.size := by omega
  have hrn := fun (w : World) => run_string_add_sum (P := Tryz.prog) (w := w) TA TB hcat
  obtain ⟨k, m, g, x, r⟩ := a
  obtain ⟨l, n, h, y, s⟩ := b
  unfold vv at *
  try unfold va at *
  try dsimp only at *
  clear ja jb zA zB
  have hst : ∀ (a : Addr) (n : Nat) (m : Mode) (w : World), (store a (.float .f64 n) m).run Tryz.prog w = stored Tryz.prog w a (.float .f64 n) m := fun a n m w => run_store _ _ _ _ _ rfl
  go_enter Tryz.func24, Tryz.ntmps24
  go_wp2_with fail
  refine (JA _).mono ?_
  rintro e w1 ⟨rfl, g1⟩
  have S1 : Hid (Bw w w1 w.heap.size ⟨k, m, g, x, r⟩ ⟨l, n, h, y, s⟩) := Bw.step (Bw.new w _ _ _ _ _ _ _ _ _ _ _ _) (.of_grown g1)
  clear g1
  obtain ⟨_, ⟨c0, c1, c2, c3, c4⟩, ⟨d0, d1, d2, d3, d4⟩, ⟨r0, r1, r2, r3, r4, r5, rz⟩⟩ := (show Bw w w1 w.heap.size ⟨k, m, g, x, r⟩ ⟨l, n, h, y, s⟩ from S1)
  go_wp2_with fail
  refine (JB _).mono ?_
  rintro e w2 ⟨rfl, g2⟩
  have S2 : Hid (Bw w w2 w.heap.size ⟨k, m, g, x, r⟩ ⟨l, n, h, y, s⟩) := Bw.step S1 (.of_grown g2)
  clear g2 S1 c0 c1 c2 c3 c4 d0 d1 d2 d3 d4 r0 r1 r2 r3 r4 r5 rz
  obtain ⟨_, ⟨c0, c1, c2, c3, c4⟩, ⟨d0, d1, d2, d3, d4⟩, ⟨r0, r1, r2, r3, r4, r5, rz⟩⟩ := (show Bw w w2 w.heap.size ⟨k, m, g, x, r⟩ ⟨l, n, h, y, s⟩ from S2)
  go_wp2_with fail
  clear c0 c1 c2 c3 c4 d0 d1 d2 d3 d4 r0 r1 r2 r3 r4 r5 rz
  refine AnyL.region (S := (fun W' : World => Vc W' w.heap.size ⟨k, m, g, x, r⟩ ∧ Vc W' (w.heap.size + 1) ⟨l, n, h, y, s⟩)) (z := 5) (by kernel_rfl) ?_
  have SD : Hid (Bw w w2.drew w.heap.size ⟨k, m, g, x, r⟩ ⟨l, n, h, y, s⟩) := Bw.step S2 (Kq.drew (Kq.refl _))
  have hS0 : (fun W' : World => Vc W' w.heap.size ⟨k, m, g, x, r⟩ ∧ Vc W' (w.heap.size + 1) ⟨l, n, h, y, s⟩) w2.drew := ⟨(show Bw w w2.drew w.heap.size ⟨k, m, g, x, r⟩ ⟨l, n, h, y, s⟩ from SD).a, (show Bw w w2.drew w.heap.size ⟨k, m, g, x, r⟩ ⟨l, n, h, y, s⟩ from SD).b⟩
  clear S2
  refine AnyL.takeAt 0 (.agg #[.int .i64 k, .int .i64 m, .float .f64 g, .string x, .int .i64 r]) rfl (by kernel_rfl) (by kernel_rfl) (by kernel_rfl) (by kernel_rfl) (fun _ _ _ h => h) rfl hS0 (by intro W hW; obtain ⟨⟨q0, q1, q2, q3, q4⟩, ⟨p0, p1, p2, p3, p4⟩⟩ := hW; go_simp) ?_
  try simp only [Act.put, List.setIfInBounds_toArray, List.set_cons_zero, List.set_cons_succ]
  refine AnyL.takeAt 2 (.agg #[.int .i64 l, .int .i64 n, .float .f64 h, .string y, .int .i64 s]) rfl (by kernel_rfl) (by kernel_rfl) (by kernel_rfl) (by kernel_rfl) (fun _ _ _ h => h) rfl hS0 (by intro W hW; obtain ⟨⟨q0, q1, q2, q3, q4⟩, ⟨p0, p1, p2, p3, p4⟩⟩ := hW; go_simp) ?_
  try simp only [Act.put, List.setIfInBounds_toArray, List.set_cons_zero, List.set_cons_succ]
  clear hS0
  refine AnyL.oneAt 1 rfl (by kernel_rfl) rfl ?_
  intro K hK
  go_simp
  refine (HTA _ (Tb.kq hT (Bw.kq SD))).mono ?_
  rintro e w3 ⟨rfl, g3⟩
  have S3 : Hid (Bw w w3 w.heap.size ⟨k, m, g, x, r⟩ ⟨l, n, h, y, s⟩) := Bw.step SD g3
  clear g3 SD
  refine hK.out _ _ (fun _ => ⟨(show Bw w w3 w.heap.size ⟨k, m, g, x, r⟩ ⟨l, n, h, y, s⟩ from S3).a, (show Bw w w3 w.heap.size ⟨k, m, g, x, r⟩ ⟨l, n, h, y, s⟩ from S3).b⟩) ?_
  clear hK K
  try simp only [Act.put, List.setIfInBounds_toArray, List.set_cons_zero, List.set_cons_succ]
  refine AnyL.oneAt 3 rfl (by kernel_rfl) rfl ?_
  intro K hK
  go_simp
  refine (HTB _ (Tb.kq hT (Bw.kq S3))).mono ?_
  rintro e w4 ⟨rfl, g4⟩
  have S4 : Hid (Bw w w4 w.heap.size ⟨k, m, g, x, r⟩ ⟨l, n, h, y, s⟩) := Bw.step S3 g4
  clear g4 S3
  refine hK.out _ _ (fun _ => ⟨(show Bw w w4 w.heap.size ⟨k, m, g, x, r⟩ ⟨l, n, h, y, s⟩ from S4).a, (show Bw w w4 w.heap.size ⟨k, m, g, x, r⟩ ⟨l, n, h, y, s⟩ from S4).b⟩) ?_
  clear hK K
  try simp only [Act.put, List.setIfInBounds_toArray, List.set_cons_zero, List.set_cons_succ]
  refine AnyL.oneAt 4 rfl (by kernel_rfl) rfl ?_
  intro K hK
  go_simp
  refine hK.out _ _ (fun _ => ⟨(show Bw w w4 w.heap.size ⟨k, m, g, x, r⟩ ⟨l, n, h, y, s⟩ from S4).a, (show Bw w w4 w.heap.size ⟨k, m, g, x, r⟩ ⟨l, n, h, y, s⟩ from S4).b⟩) ?_
  clear hK K
  try simp only [Act.put, List.setIfInBounds_toArray, List.set_cons_zero, List.set_cons_succ]
  refine AnyL.oneAt 5 rfl (by kernel_rfl) rfl ?_
  intro K hK
  go_simp
  refine hK.out _ _ (fun _ => ⟨(show Bw w w4 w.heap.size ⟨k, m, g, x, r⟩ ⟨l, n, h, y, s⟩ from S4).a, (show Bw w w4 w.heap.size ⟨k, m, g, x, r⟩ ⟨l, n, h, y, s⟩ from S4).b⟩) ?_
  clear hK K
  try simp only [Act.put, List.setIfInBounds_toArray, List.set_cons_zero, List.set_cons_succ]
  refine AnyL.done (by kernel_rfl) ?_
  obtain ⟨_, ⟨c0, c1, c2, c3, c4⟩, ⟨d0, d1, d2, d3, d4⟩, ⟨r0, r1, r2, r3, r4, r5, rz⟩⟩ := (show Bw w w4 w.heap.size ⟨k, m, g, x, r⟩ ⟨l, n, h, y, s⟩ from S4)
  go_wp2_with fail
  refine (HF _).mono ?_
  rintro e w5 ⟨rfl, g5⟩
  have S5 : Hid (Bw w w5 w.heap.size ⟨k, m, g, x, r⟩ ⟨l, n, h, y, s⟩) := Bw.step S4 (.of_grown g5)
  clear g5 S4 c0 c1 c2 c3 c4 d0 d1 d2 d3 d4 r0 r1 r2 r3 r4 r5 rz
  obtain ⟨_, ⟨c0, c1, c2, c3, c4⟩, ⟨d0, d1, d2, d3, d4⟩, ⟨r0, r1, r2, r3, r4, r5, rz⟩⟩ := (show Bw w w5 w.heap.size ⟨k, m, g, x, r⟩ ⟨l, n, h, y, s⟩ from S5)
  go_wp2_with fail
  obtain ⟨e0, e1, e2, e3, e4, e5⟩ := rv_set' (show Bw w w5 w.heap.size ⟨k, m, g, x, r⟩ ⟨l, n, h, y, s⟩ from S5).r 4 0 0 0 ⟨#[]⟩ 0
  have GF : Hid (Kq w (s6 w5 (w.heap.size + 2) 4 0 0 0 ⟨#[]⟩ 0)) := s6_kq (show Bw w w5 w.heap.size ⟨k, m, g, x, r⟩ ⟨l, n, h, y, s⟩ from S5).kq (by omega) 4 0 0 0 ⟨#[]⟩ 0
  obtain ⟨WF, hWF⟩ : ∃ WF, WF = s6 w5 (w.heap.size + 2) 4 0 0 0 ⟨#[]⟩ 0 := ⟨_, rfl⟩
  rw [← hWF] at e0 e1 e2 e3 e4 e5 GF
  have hWF' := hWF
  unfold s6 at hWF'
  rw [← hWF']
  clear hWF hWF'
  refine bodyPost_ret (by simp [results, Tryz.results24, go_sem, e0, e1, e2, e3, e4, e5]; rfl) rfl ?_
  exact ⟨rfl, GF⟩
set_option maxHeartbeats 4000000 in
theorem im_jo_o (a b : Vv) (ja : jn a) (jb : jn b) (TA TB : ByteArray) (HTA : (∀ w, Tb w → Calls Tryz.prog 46 #[vv a] w fun e w' => e = .returned (.string TA) ∧ Kq w w')) (HTB : (∀ w, Tb w → Calls Tryz.prog 46 #[vv b] w fun e w' => e = .returned (.string TB) ∧ Kq w w')) (zA : TA.size ≤ 4000) (zB : TB.size ≤ 4000) (hz : ¬ 4000 < (TA.size : Int) + (TB.size : Int)) (w : World) (hT : Tb w) : Calls Tryz.prog 24 #[vv a, vv b] w fun e w' => e = .returned (va 0 ⟨4, 0, 0, TA ++ TB, 0⟩) ∧ Kq w w' := by
  have JA := fun w => im_jn a w
  rw [dc_t ja] at JA
  have JB := fun w => im_jn b w
  rw [dc_t jb] at JB
  have HI := fun w => im_str (TA ++ TB) w
  have hz2 : ¬ 4000 < ((TA ++ TB).size : Int) := by rw [ByteArray.size_append]; omega
  have hcat : TA.size + TB.size ≤ 9223372036854775807 := by omega
  have hct2 : ¬ 9223372036854775807 < TA.size + TB.size := by omega
  have hrn := fun (w : World) => run_string_add_sum (P := Tryz.prog) (w := w) TA TB hcat
  obtain ⟨k, m, g, x, r⟩ := a
  obtain ⟨l, n, h, y, s⟩ := b
  unfold vv at *
  try unfold va at *
  try dsimp only at *
  clear ja jb zA zB
  have hst : ∀ (a : Addr) (n : Nat) (m : Mode) (w : World), (store a (.float .f64 n) m).run Tryz.prog w = stored Tryz.prog w a (.float .f64 n) m := fun a n m w => run_store _ _ _ _ _ rfl
  go_enter Tryz.func24, Tryz.ntmps24
  go_wp2_with fail
  refine (JA _).mono ?_
  rintro e w1 ⟨rfl, g1⟩
  have S1 : Hid (Bw w w1 w.heap.size ⟨k, m, g, x, r⟩ ⟨l, n, h, y, s⟩) := Bw.step (Bw.new w _ _ _ _ _ _ _ _ _ _ _ _) (.of_grown g1)
  clear g1
  obtain ⟨_, ⟨c0, c1, c2, c3, c4⟩, ⟨d0, d1, d2, d3, d4⟩, ⟨r0, r1, r2, r3, r4, r5, rz⟩⟩ := (show Bw w w1 w.heap.size ⟨k, m, g, x, r⟩ ⟨l, n, h, y, s⟩ from S1)
  go_wp2_with fail
  refine (JB _).mono ?_
  rintro e w2 ⟨rfl, g2⟩
  have S2 : Hid (Bw w w2 w.heap.size ⟨k, m, g, x, r⟩ ⟨l, n, h, y, s⟩) := Bw.step S1 (.of_grown g2)
  clear g2 S1 c0 c1 c2 c3 c4 d0 d1 d2 d3 d4 r0 r1 r2 r3 r4 r5 rz
  obtain ⟨_, ⟨c0, c1, c2, c3, c4⟩, ⟨d0, d1, d2, d3, d4⟩, ⟨r0, r1, r2, r3, r4, r5, rz⟩⟩ := (show Bw w w2 w.heap.size ⟨k, m, g, x, r⟩ ⟨l, n, h, y, s⟩ from S2)
  go_wp2_with fail
  clear c0 c1 c2 c3 c4 d0 d1 d2 d3 d4 r0 r1 r2 r3 r4 r5 rz
  refine AnyL.region (S := (fun W' : World => Vc W' w.heap.size ⟨k, m, g, x, r⟩ ∧ Vc W' (w.heap.size + 1) ⟨l, n, h, y, s⟩)) (z := 5) (by kernel_rfl) ?_
  have SD : Hid (Bw w w2.drew w.heap.size ⟨k, m, g, x, r⟩ ⟨l, n, h, y, s⟩) := Bw.step S2 (Kq.drew (Kq.refl _))
  have hS0 : (fun W' : World => Vc W' w.heap.size ⟨k, m, g, x, r⟩ ∧ Vc W' (w.heap.size + 1) ⟨l, n, h, y, s⟩) w2.drew := ⟨(show Bw w w2.drew w.heap.size ⟨k, m, g, x, r⟩ ⟨l, n, h, y, s⟩ from SD).a, (show Bw w w2.drew w.heap.size ⟨k, m, g, x, r⟩ ⟨l, n, h, y, s⟩ from SD).b⟩
  clear S2
  refine AnyL.takeAt 0 (.agg #[.int .i64 k, .int .i64 m, .float .f64 g, .string x, .int .i64 r]) rfl (by kernel_rfl) (by kernel_rfl) (by kernel_rfl) (by kernel_rfl) (fun _ _ _ h => h) rfl hS0 (by intro W hW; obtain ⟨⟨q0, q1, q2, q3, q4⟩, ⟨p0, p1, p2, p3, p4⟩⟩ := hW; go_simp) ?_
  try simp only [Act.put, List.setIfInBounds_toArray, List.set_cons_zero, List.set_cons_succ]
  refine AnyL.takeAt 2 (.agg #[.int .i64 l, .int .i64 n, .float .f64 h, .string y, .int .i64 s]) rfl (by kernel_rfl) (by kernel_rfl) (by kernel_rfl) (by kernel_rfl) (fun _ _ _ h => h) rfl hS0 (by intro W hW; obtain ⟨⟨q0, q1, q2, q3, q4⟩, ⟨p0, p1, p2, p3, p4⟩⟩ := hW; go_simp) ?_
  try simp only [Act.put, List.setIfInBounds_toArray, List.set_cons_zero, List.set_cons_succ]
  clear hS0
  refine AnyL.oneAt 1 rfl (by kernel_rfl) rfl ?_
  intro K hK
  go_simp
  refine (HTA _ (Tb.kq hT (Bw.kq SD))).mono ?_
  rintro e w3 ⟨rfl, g3⟩
  have S3 : Hid (Bw w w3 w.heap.size ⟨k, m, g, x, r⟩ ⟨l, n, h, y, s⟩) := Bw.step SD g3
  clear g3 SD
  refine hK.out _ _ (fun _ => ⟨(show Bw w w3 w.heap.size ⟨k, m, g, x, r⟩ ⟨l, n, h, y, s⟩ from S3).a, (show Bw w w3 w.heap.size ⟨k, m, g, x, r⟩ ⟨l, n, h, y, s⟩ from S3).b⟩) ?_
  clear hK K
  try simp only [Act.put, List.setIfInBounds_toArray, List.set_cons_zero, List.set_cons_succ]
  refine AnyL.oneAt 3 rfl (by kernel_rfl) rfl ?_
  intro K hK
  go_simp
  refine (HTB _ (Tb.kq hT (Bw.kq S3))).mono ?_
  rintro e w4 ⟨rfl, g4⟩
  have S4 : Hid (Bw w w4 w.heap.size ⟨k, m, g, x, r⟩ ⟨l, n, h, y, s⟩) := Bw.step S3 g4
  clear g4 S3
  refine hK.out _ _ (fun _ => ⟨(show Bw w w4 w.heap.size ⟨k, m, g, x, r⟩ ⟨l, n, h, y, s⟩ from S4).a, (show Bw w w4 w.heap.size ⟨k, m, g, x, r⟩ ⟨l, n, h, y, s⟩ from S4).b⟩) ?_
  clear hK K
  try simp only [Act.put, List.setIfInBounds_toArray, List.set_cons_zero, List.set_cons_succ]
  refine AnyL.oneAt 4 rfl (by kernel_rfl) rfl ?_
  intro K hK
  go_simp
  refine hK.out _ _ (fun _ => ⟨(show Bw w w4 w.heap.size ⟨k, m, g, x, r⟩ ⟨l, n, h, y, s⟩ from S4).a, (show Bw w w4 w.heap.size ⟨k, m, g, x, r⟩ ⟨l, n, h, y, s⟩ from S4).b⟩) ?_
  clear hK K
  try simp only [Act.put, List.setIfInBounds_toArray, List.set_cons_zero, List.set_cons_succ]
  refine AnyL.oneAt 5 rfl (by kernel_rfl) rfl ?_
  intro K hK
  go_simp
  refine hK.out _ _ (fun _ => ⟨(show Bw w w4 w.heap.size ⟨k, m, g, x, r⟩ ⟨l, n, h, y, s⟩ from S4).a, (show Bw w w4 w.heap.size ⟨k, m, g, x, r⟩ ⟨l, n, h, y, s⟩ from S4).b⟩) ?_
  clear hK K
  try simp only [Act.put, List.setIfInBounds_toArray, List.set_cons_zero, List.set_cons_succ]
  refine AnyL.done (by kernel_rfl) ?_
  obtain ⟨_, ⟨c0, c1, c2, c3, c4⟩, ⟨d0, d1, d2, d3, d4⟩, ⟨r0, r1, r2, r3, r4, r5, rz⟩⟩ := (show Bw w w4 w.heap.size ⟨k, m, g, x, r⟩ ⟨l, n, h, y, s⟩ from S4)
  go_wp2_with fail
  refine (HI _).mono ?_
  rintro e w5 ⟨rfl, g5⟩
  have S5 : Hid (Bw w w5 w.heap.size ⟨k, m, g, x, r⟩ ⟨l, n, h, y, s⟩) := Bw.step S4 (.of_grown g5)
  clear g5 S4 c0 c1 c2 c3 c4 d0 d1 d2 d3 d4 r0 r1 r2 r3 r4 r5 rz
  obtain ⟨_, ⟨c0, c1, c2, c3, c4⟩, ⟨d0, d1, d2, d3, d4⟩, ⟨r0, r1, r2, r3, r4, r5, rz⟩⟩ := (show Bw w w5 w.heap.size ⟨k, m, g, x, r⟩ ⟨l, n, h, y, s⟩ from S5)
  go_wp2_with fail
  obtain ⟨e0, e1, e2, e3, e4, e5⟩ := rv_set' (show Bw w w5 w.heap.size ⟨k, m, g, x, r⟩ ⟨l, n, h, y, s⟩ from S5).r 0 4 0 0 (TA ++ TB) 0
  have GF : Hid (Kq w (s6 w5 (w.heap.size + 2) 0 4 0 0 (TA ++ TB) 0)) := s6_kq (show Bw w w5 w.heap.size ⟨k, m, g, x, r⟩ ⟨l, n, h, y, s⟩ from S5).kq (by omega) 0 4 0 0 (TA ++ TB) 0
  obtain ⟨WF, hWF⟩ : ∃ WF, WF = s6 w5 (w.heap.size + 2) 0 4 0 0 (TA ++ TB) 0 := ⟨_, rfl⟩
  rw [← hWF] at e0 e1 e2 e3 e4 e5 GF
  have hWF' := hWF
  unfold s6 at hWF'
  rw [← hWF']
  clear hWF hWF'
  refine bodyPost_ret (by simp [results, Tryz.results24, go_sem, e0, e1, e2, e3, e4, e5]; rfl) rfl ?_
  exact ⟨rfl, GF⟩
end Go.Proofs.YtladepgpandklaaGreatDoor
