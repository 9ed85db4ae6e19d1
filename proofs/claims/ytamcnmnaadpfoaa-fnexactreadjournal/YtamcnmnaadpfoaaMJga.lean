import Derived.Deep.CutRange
import Derived.Deep.AppendLies
import Derived.Test.YtamcnmnaadpfoaaMPai
import Derived.Test.YtamcnmnaadpfoaaMJtc
import Derived.Test.YtamcnmnaadpfoaaMJsb
import Derived.Test.YtamcnmnaadpfoaaMUae
namespace Go.Proofs.Ytamcnmnaadpfoaa.Fo
open Go.ChangeShapes Go.WideShapes Go.ChangeAt Go.RowKit
set_option linter.unusedVariables false
set_option maxRecDepth 100000
section
variable {P : Program} {ops : Array Oper} {Q : Exit → Act → World → Prop} {md : Region.Mode} {S : World → Prop} {z : Nat}
/-- two operations may come up -/
theorem AnyL.two (i j : Nat) {l : List Oper} {oi oj : Oper} {k : Nat} {listed : Array Bool} {a : Act} {w : World} (hi : l[i]? = some oi) (hj : l[j]? = some oj) (hr : Region.ready md l.toArray listed = [i, j]) (hwi : Region.wanted oi (yielded l.toArray a.tmps) = true) (hwj : Region.wanted oj (yielded l.toArray a.tmps) = true)
    (h1 : ∀ K : Act → World → Prop, Shut (∀ a' w', (i ≠ z → S w') → AnyL P md l.toArray Q S z k (listed.setIfInBounds i true) a' w' → K a' w') → Oper.wp P oi a w K Q)
    (h2 : ∀ K : Act → World → Prop, Shut (∀ a' w', (j ≠ z → S w') → AnyL P md l.toArray Q S z k (listed.setIfInBounds j true) a' w' → K a' w') → Oper.wp P oj a w K Q) : AnyL P md l.toArray Q S z (k + 1) listed a w := by
  refine ⟨fun h => absurd h (by rw [hr]; simp), fun m hm => ?_⟩
  rw [hr] at hm
  have hm' : m = i ∨ m = j := by simpa using hm
  rcases hm' with rfl | rfl
  · unfold wpOp
    have hi' : l.toArray[m]? = some oi := by simpa using hi
    simp only [hi', hwi, if_true]
    exact Or.inl (h1 _ (fun a' w' h1 h2 => ⟨h1, h2⟩))
  · unfold wpOp
    have hj' : l.toArray[m]? = some oj := by simpa using hj
    simp only [hj', hwj, if_true]
    exact Or.inl (h2 _ (fun a' w' h1 h2 => ⟨h1, h2⟩))
end
/-- the cells of the first j values of a row -/
def vls (C : Nat → Gv) : Nat → List Value
  | 0 => []
  | j + 1 => vls C j ++ gcl (C j)
theorem vls_len (C : Nat → Gv) : ∀ j, (vls C j).length = j * 4
  | 0 => rfl
  | j + 1 => by
    show (vls C j ++ gcl (C j)).length = _
    rw [List.length_append, vls_len C j]
    show j * 4 + 4 = _
    omega
theorem vls_at (C : Nat → Gv) {k t : Nat} (ht : t < 4) : ∀ {j}, k < j → (vls C j)[k * 4 + t]? = (gcl (C k))[t]?
  | 0, h => by omega
  | j + 1, h => by
    show (vls C j ++ gcl (C j))[k * 4 + t]? = _
    by_cases e : k = j
    · subst e
      rw [List.getElem?_append_right (by rw [vls_len]; omega), vls_len]
      congr 1
      omega
    · rw [List.getElem?_append_left (by rw [vls_len]; omega)]
      exact vls_at C ht (by omega)
theorem own_vls {W : World} {B : Nat} {v : Value} {C : Nat → Gv} {c : Nat} (h : W.ownsRow B 41 4 v c (vls C c)) : RowW B W v c C := by
  obtain ⟨ad, cap, rfl⟩ := own_shape h
  refine ⟨ad, cap, rfl, fun hn => ?_⟩
  obtain ⟨g, cap', e, hB, hc, hcell⟩ := own_cells h hn
  injection e with e1 e2 e3
  subst e1
  subst e3
  refine ⟨_, rfl, hc, hB, fun i hi => ?_⟩
  rw [addr0]
  exact CelV.of (fun t ht => (hcell _ (by omega)).trans (vls_at C ht hi))
/-- the cells of the first j things -/
def tcl (F : Nat → Td) (V : Nat → Value) : Nat → List Value
  | 0 => []
  | j + 1 => tcl F V j ++ [.int .i64 (F j).t, V j]
theorem tcl_len (F : Nat → Td) (V : Nat → Value) : ∀ j, (tcl F V j).length = j * 2
  | 0 => rfl
  | j + 1 => by
    show (tcl F V j ++ [.int .i64 (F j).t, V j]).length = _
    rw [List.length_append, tcl_len F V j]
    show j * 2 + 2 = _
    omega
theorem tcl_at (F : Nat → Td) (V : Nat → Value) {k t : Nat} (ht : t < 2) : ∀ {j}, k < j → (tcl F V j)[k * 2 + t]? = ([.int .i64 (F k).t, V k] : List Value)[t]?
  | 0, h => by omega
  | j + 1, h => by
    show (tcl F V j ++ [.int .i64 (F j).t, V j])[k * 2 + t]? = _
    by_cases e : k = j
    · subst e
      rw [List.getElem?_append_right (by rw [tcl_len]; omega), tcl_len]
      congr 1
      omega
    · rw [List.getElem?_append_left (by rw [tcl_len]; omega)]
      exact tcl_at F V ht (by omega)
theorem tcl_congr {F G : Nat → Td} {V U : Nat → Value} : ∀ {j}, (∀ k, k < j → F k = G k ∧ V k = U k) → tcl F V j = tcl G U j
  | 0, _ => rfl
  | j + 1, h => by
    show tcl F V j ++ [.int .i64 (F j).t, V j] = tcl G U j ++ [.int .i64 (G j).t, U j]
    rw [tcl_congr (fun k hk => h k (by omega)), (h j (by omega)).1, (h j (by omega)).2]
theorem tcl_add (F : Nat → Td) (V : Nat → Value) (a : Nat) : ∀ b, tcl F V (a + b) = tcl F V a ++ tcl (fun k => F (a + k)) (fun k => V (a + k)) b
  | 0 => by show tcl F V a = tcl F V a ++ []; rw [List.append_nil]
  | b + 1 => by
    show tcl F V (a + b) ++ [.int .i64 (F (a + b)).t, V (a + b)] = tcl F V a ++ (tcl (fun k => F (a + k)) (fun k => V (a + k)) b ++ [.int .i64 (F (a + b)).t, V (a + b)])
    rw [tcl_add F V a b, List.append_assoc]
theorem tcl_one (F : Nat → Td) (V : Nat → Value) (hV : ∀ k, (V k).oneCell' = true) : ∀ j, ∀ y ∈ tcl F V j, y.oneCell' = true
  | 0, y, hy => by cases hy
  | j + 1, y, hy => by
    have hy2 : y ∈ tcl F V j ++ [.int .i64 (F j).t, V j] := hy
    rcases List.mem_append.1 hy2 with h | h
    · exact tcl_one F V hV j y h
    · simp only [List.mem_cons, List.not_mem_nil, or_false] at h
      rcases h with rfl | rfl
      · rfl
      · exact hV j
/-- things that are made, each with its row -/
structure TH (B : Nat) (W : World) (u : Value) (n : Nat) (F : Nat → Td) (V : Nat → Value) : Prop where
  nn : W.ownsRow B 50 2 u n (tcl F V n)
  vs : ∀ k, k < n → W.ownsRow B 41 4 (V k) (F k).c (vls (F k).C (F k).c)
theorem TH.row {B : Nat} {W : World} {u : Value} {n : Nat} {F : Nat → Td} {V : Nat → Value} (h : TH B W u n F V) : RowT B W u n F := by
  have hn' := h.nn
  obtain ⟨ad, cap, rfl⟩ := own_shape hn'
  refine ⟨ad, cap, rfl, fun hn => ?_⟩
  obtain ⟨g, cap', e, hB, hc, hcell⟩ := own_cells hn' hn
  injection e with e1 e2 e3
  subst e1
  subst e3
  refine ⟨_, rfl, hc, hB, fun k hk => ?_⟩
  rw [addr0]
  exact ⟨V k, CelT.of (fun t ht => (hcell _ (by omega)).trans (tcl_at F V ht hk)), own_vls (h.vs k hk)⟩
theorem own_kb {W W' : World} {B t s n : Nat} {v : Value} {l : List Value} (h : W.ownsRow B t s v n l) (k : Kb 0 W W') : W'.ownsRow B t s v n l := own_keep h (fun g e => k.block g (Nat.zero_le _) (h.lt g e).2)
theorem TH.kb {B : Nat} {W W' : World} {u : Value} {n : Nat} {F : Nat → Td} {V : Nat → Value} (h : TH B W u n F V) (k : Kb 0 W W') : TH B W' u n F V := ⟨own_kb h.nn k, fun i hi => own_kb (h.vs i hi) k⟩
theorem TH.base {B B' : Nat} {W : World} {u : Value} {n : Nat} {F : Nat → Td} {V : Nat → Value} (h : TH B W u n F V) (hb : B' ≤ B) : TH B' W u n F V := ⟨own_base h.nn hb, fun i hi => own_base (h.vs i hi) hb⟩
theorem own_new (w : World) (c : Array Value) (t s n : Nat) (B : Nat) (hB : B ≤ w.heap.size) (hn : n ≤ 1000000) (hc : c.size = n * s) {l : List Value} (hl : c.toList = l) : (w.alloc (.cells c t)).ownsRow B t s (.slice (some ⟨w.heap.size, 0, none⟩) n n) n l := by
  subst hl
  refine ⟨by simpa using hc, .inr ⟨w.heap.size, n, c, rfl, hB, alloc_new _ _ _, Nat.le_refl _, by unfold maxLen; omega, hc, ?_⟩⟩
  rw [← hc, ← Array.length_toList]
  exact List.take_length
/-- one more thing behind the others -/
theorem TH.push {B : Nat} {W W8 W9 : World} {u u' : Value} {i : Nat} {F : Nat → Td} {V : Nat → Value} {x : Value} (h : TH B W u i F V) (k : Kb 0 W W8) (hx : W8.ownsRow B 41 4 x (F i).c (vls (F i).C (F i).c)) (ho : W9.ownsRow B 50 2 u' (i + 1) (tcl F V i ++ [.int .i64 (F i).t, x])) (hg : W8.grownBy W9 u.ownBlock) : TH B W9 u' (i + 1) F (fun k => if k = i then x else V k) := by
  have hu := own_kb h.nn k
  have kp : ∀ {v : Value} {c : Nat} {l : List Value}, W8.ownsRow B 41 4 v c l → W9.ownsRow B 41 4 v c l := fun {v c l} hv => own_keep hv (fun g e => hg.block g (hv.lt g e).2 (own_ne hv hu (by decide) e))
  refine ⟨?_, fun j hj => ?_⟩
  · show W9.ownsRow B _ 2 u' (i + 1) (tcl F (fun k => if k = i then x else V k) i ++ [.int .i64 (F i).t, if i = i then x else V i])
    rw [if_pos rfl, tcl_congr (G := F) (U := V) (fun k hk => ⟨rfl, if_neg (by omega)⟩)]
    exact ho
  · by_cases e : j = i
    · subst e
      rw [if_pos rfl]
      exact kp hx
    · rw [if_neg e]
      exact kp (own_kb (h.vs j (by omega)) k)
/-- a journal: its lines, place, pace, and its stops -/
structure Jd where
  n : Nat
  S : Nat → ByteArray
  p : Int
  q : Int
  m : Nat
  T : Nat → Gv
def nmV (z : Int) : Gv := ⟨1, z, ⟨#[]⟩, 0⟩
def txV (s : ByteArray) : Gv := ⟨3, 0, s, 0⟩
def ndV (r : Int) : Gv := ⟨4, 0, ⟨#[]⟩, r⟩
def four (a b c d : Gv) (j : Nat) : Gv := if j = 0 then a else if j = 1 then b else if j = 2 then c else d
def rtT (p q : Int) : Td := ⟨1, 4, four (nmV p) (nmV q) (ndV 1) (ndV 2)⟩
def lnT (n : Nat) (S : Nat → ByteArray) : Td := ⟨2, n, fun j => txV (S j)⟩
def skT (m : Nat) : Td := ⟨3, m, fun j => ndV (3 + (j : Int))⟩
def stT (s : Gv) : Td := ⟨4, 4, four (nmV s.k) (nmV s.m) (nmV s.r) (txV s.x)⟩
def jF (J : Jd) (i : Nat) : Td := if i = 0 then rtT J.p J.q else if i = 1 then lnT J.n J.S else if i = 2 then skT J.m else stT (J.T (i - 3))
theorem jF_st (J : Jd) (i : Nat) : jF J (3 + i) = stT (J.T i) := by
  unfold jF
  rw [if_neg (by omega), if_neg (by omega), if_neg (by omega), show 3 + i - 3 = i by omega]
/-- what is asked of a journal -/
def Jok (J : Jd) : Prop := J.n ≤ 200 ∧ J.m ≤ 20 ∧ (-1 ≤ J.p ∧ J.p ≤ 100000) ∧ (0 ≤ J.q ∧ J.q ≤ 1000) ∧ (∀ i, i < J.n → (J.S i).size ≤ 4000) ∧ ∀ i, i < J.m → StP (J.T i).k (J.T i).m (J.T i).r (J.T i).x.size
/-- a journal's image -/
noncomputable def jim (J : Jd) : List Int := if dc (Jok J) = true then pck (3 + J.m) (jF J) (ndV 0) else []
theorem four_x (a b c d : Gv) (j : Nat) : (four a b c d j) = a ∨ (four a b c d j) = b ∨ (four a b c d j) = c ∨ (four a b c d j) = d := by
  unfold four
  split
  · exact .inl rfl
  · split
    · exact .inr (.inl rfl)
    · split
      · exact .inr (.inr (.inl rfl))
      · exact .inr (.inr (.inr rfl))
theorem jok_vals {J : Jd} (h : Jok J) : ∀ i, i < 3 + J.m → (jF J i).c ≤ 200 ∧ ∀ j, j < (jF J i).c → ((jF J i).C j).x.size ≤ 4000 ∧ -9223372036854775808 ≤ ((jF J i).C j).m ∧ ((jF J i).C j).m ≤ 9223372036854775807 := by
  obtain ⟨h1, h2, h3, h4, h5, h6⟩ := h
  have hnm : ∀ z : Int, -1000000 ≤ z → z ≤ 1000000 → (nmV z).x.size ≤ 4000 ∧ -9223372036854775808 ≤ (nmV z).m ∧ (nmV z).m ≤ 9223372036854775807 := fun z h1 h2 => ⟨by show 0 ≤ 4000; omega, by show -9223372036854775808 ≤ z; omega, by show z ≤ 9223372036854775807; omega⟩
  have hnd : ∀ z : Int, (ndV z).x.size ≤ 4000 ∧ -9223372036854775808 ≤ (ndV z).m ∧ (ndV z).m ≤ 9223372036854775807 := fun z => ⟨by show 0 ≤ 4000; omega, by show -9223372036854775808 ≤ (0 : Int); omega, by show (0 : Int) ≤ 9223372036854775807; omega⟩
  have htx : ∀ s : ByteArray, s.size ≤ 4000 → (txV s).x.size ≤ 4000 ∧ -9223372036854775808 ≤ (txV s).m ∧ (txV s).m ≤ 9223372036854775807 := fun s hs => ⟨hs, by show -9223372036854775808 ≤ (0 : Int); omega, by show (0 : Int) ≤ 9223372036854775807; omega⟩
  intro i hi
  unfold jF
  by_cases e0 : i = 0
  · rw [if_pos e0]
    refine ⟨by show 4 ≤ 200; omega, fun j hj => ?_⟩
    show (four (nmV J.p) (nmV J.q) (ndV 1) (ndV 2) j).x.size ≤ 4000 ∧ _ ≤ (four (nmV J.p) (nmV J.q) (ndV 1) (ndV 2) j).m ∧ (four (nmV J.p) (nmV J.q) (ndV 1) (ndV 2) j).m ≤ _
    rcases four_x (nmV J.p) (nmV J.q) (ndV 1) (ndV 2) j with e | e | e | e <;> rw [e]
    · exact hnm _ (by omega) (by omega)
    · exact hnm _ (by omega) (by omega)
    · exact hnd _
    · exact hnd _
  rw [if_neg e0]
  by_cases e1 : i = 1
  · rw [if_pos e1]
    exact ⟨h1, fun j hj => htx _ (h5 j hj)⟩
  rw [if_neg e1]
  by_cases e2 : i = 2
  · rw [if_pos e2]
    exact ⟨by show J.m ≤ 200; omega, fun j hj => hnd _⟩
  rw [if_neg e2]
  refine ⟨by show 4 ≤ 200; omega, fun j hj => ?_⟩
  have hs := h6 (i - 3) (by omega)
  generalize J.T (i - 3) = s at hs
  show (four (nmV s.k) (nmV s.m) (nmV s.r) (txV s.x) j).x.size ≤ 4000 ∧ _ ≤ (four (nmV s.k) (nmV s.m) (nmV s.r) (txV s.x) j).m ∧ (four (nmV s.k) (nmV s.m) (nmV s.r) (txV s.x) j).m ≤ _
  unfold StP at hs
  rcases four_x (nmV s.k) (nmV s.m) (nmV s.r) (txV s.x) j with e | e | e | e <;> rw [e]
  · exact hnm _ (by omega) (by omega)
  · exact hnm _ (by omega) (by omega)
  · exact hnm _ (by omega) (by omega)
  · exact htx _ (by omega)
theorem jok_bg {J : Jd} (h : Jok J) : Bg (3 + J.m) (jF J) (ndV 0) := by
  have h2 := h.2.1
  refine ⟨by omega, by show 0 ≤ 1048576; omega, fun i hi => ?_, fun i hi j hj => ?_⟩
  · have := (jok_vals h i hi).1; omega
  · have := ((jok_vals h i hi).2 j hj).1; omega
theorem jok_rg {J : Jd} (h : Jok J) : Rg (3 + J.m) (jF J) (ndV 0) :=
  ⟨⟨by show -9223372036854775808 ≤ (0 : Int); omega, by show (0 : Int) ≤ 9223372036854775807; omega⟩, fun i hi j hj => ((jok_vals h i hi).2 j hj).2⟩
end Go.Proofs.Ytamcnmnaadpfoaa.Fo
