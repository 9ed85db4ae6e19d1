import Derived.Deep.AppendLies
import Derived.Test.YtaggciimacanbaaMGbb
namespace Go.Proofs.Ytaggciimacanbaa.Fo
open Go.ChangeShapes Go.WideShapes Go.ChangeAt Go.RowKit
set_option linter.unusedVariables false
set_option maxRecDepth 100000
noncomputable def dc (p : Prop) : Bool := @decide p (Classical.propDecidable p)
theorem dc_t {p : Prop} (h : p) : dc p = true := @decide_eq_true p (Classical.propDecidable p) h
theorem dc_f {p : Prop} (h : ¬ p) : dc p = false := @decide_eq_false p (Classical.propDecidable p) h
theorem bne {k m : Int} (h : k ≠ m) : (k == m) = false := beq_eq_false_iff_ne.2 h
theorem str0 {x : ByteArray} (h : x = ⟨#[]⟩) : x.toList = [] := by rw [Lib.toList_data, h]
theorem str1 {x : ByteArray} (h : ¬ x = ⟨#[]⟩) : ¬ x.toList = [] := by
  rw [Lib.toList_data]
  intro e
  exact h (by apply ByteArray.ext; exact Array.toList_inj.1 (by simpa using e))
/-- a value of a graph of n nodes that is well made -/
def Vok (n : Nat) (v : Gv) : Prop :=
  (v.k = 0 ∧ v.m = 0 ∧ v.x = ⟨#[]⟩ ∧ v.r = 0) ∨ ((v.k = 1 ∨ v.k = 2) ∧ v.x = ⟨#[]⟩ ∧ v.r = 0) ∨ (v.k = 3 ∧ v.m = 0 ∧ v.r = 0 ∧ v.x.size ≤ 4000) ∨ (v.k = 4 ∧ v.m = 0 ∧ v.x = ⟨#[]⟩ ∧ 0 ≤ v.r ∧ v.r < (n : Int))
/-- a graph that is well made -/
def Gok (n : Nat) (F : Nat → Td) (a : Gv) : Prop := n ≤ 600 ∧ Vok n a ∧ ∀ i, i < n → (0 ≤ (F i).t ∧ (F i).t ≤ 1000 ∧ (F i).c ≤ 300) ∧ ∀ j, j < (F i).c → Vok n ((F i).C j)
end Go.Proofs.Ytaggciimacanbaa.Fo

namespace Go.Proofs.Ytaggciimacanbaa.Fo
open Go.ChangeShapes Go.WideShapes Go.ChangeAt Go.RowKit
set_option linter.unusedVariables false
set_option maxRecDepth 100000
/-- the bounds that a graph which was measured keeps -/
structure Bg (n : Nat) (F : Nat → Td) (a : Gv) : Prop where
  hn : n ≤ 1048576
  hx : a.x.size ≤ 1048576
  hc : ∀ i, i < n → (F i).c ≤ 1048576
  hC : ∀ i, i < n → ∀ j, j < (F i).c → ((F i).C j).x.size ≤ 1048576
theorem bg_of {n : Nat} {F : Nat → Td} {a : Gv} (h : a.x.size + (n + sm (szT F) n) ≤ 1048576) : Bg n F a := by
  refine ⟨by omega, by omega, fun i hi => ?_, fun i hi j hj => ?_⟩
  · have := sm_one (szT F) hi
    have e : szT F i = (F i).c + sm (fun j => ((F i).C j).x.size) (F i).c := rfl
    omega
  · have := sm_one (szT F) hi
    have e : szT F i = (F i).c + sm (fun j => ((F i).C j).x.size) (F i).c := rfl
    have := sm_one (fun j => ((F i).C j).x.size) hj
    omega
/-- what is asked of node i -/
def Nok (n : Nat) (F : Nat → Td) (i : Nat) : Prop := (0 ≤ (F i).t ∧ (F i).t ≤ 1000 ∧ (F i).c ≤ 300) ∧ ∀ j, j < (F i).c → Vok n ((F i).C j)
end Go.Proofs.Ytaggciimacanbaa.Fo

namespace Go.Proofs.Ytaggciimacanbaa.Fo
open Go.ChangeShapes Go.WideShapes Go.ChangeAt Go.RowKit
set_option linter.unusedVariables false
set_option maxRecDepth 100000
/-- the nodes met so far, and those that a value leads to -/
def ext (o : List Int) (v : Gv) : List Int := if v.k = 4 then (if v.r ∈ o then o else o ++ [v.r]) else o
/-- a value with the new number of its node -/
def rnm (o : List Int) (v : Gv) : Gv := if v.k = 4 then ⟨v.k, v.m, v.x, (o.idxOf v.r : Int)⟩ else v
theorem ext_pre (o : List Int) (v : Gv) : ∃ t, ext o v = o ++ t := by
  unfold ext
  split
  · split
    · exact ⟨[], (List.append_nil _).symm⟩
    · exact ⟨_, rfl⟩
  · exact ⟨[], (List.append_nil _).symm⟩
theorem ext_mem {o : List Int} {v : Gv} (h : v.k = 4) : v.r ∈ ext o v := by
  unfold ext
  rw [if_pos h]
  split
  · assumption
  · exact List.mem_append.2 (.inr (List.mem_singleton.2 rfl))
theorem rnm_pre {o t : List Int} {v : Gv} (h : v.k = 4 → v.r ∈ o) : rnm (o ++ t) v = rnm o v := by
  unfold rnm
  split
  · rename_i hk
    rw [List.idxOf_append, if_pos (h hk)]
  · rfl
/-- the nodes met behind the first j of a row of values -/
def exts (o : List Int) (C : Nat → Gv) : Nat → List Int
  | 0 => o
  | j + 1 => ext (exts o C j) (C j)
theorem exts_pre (o : List Int) (C : Nat → Gv) : ∀ j, ∃ t, exts o C j = o ++ t
  | 0 => ⟨[], (List.append_nil _).symm⟩
  | j + 1 => by
    obtain ⟨t, e⟩ := exts_pre o C j
    obtain ⟨t', e'⟩ := ext_pre (exts o C j) (C j)
    exact ⟨t ++ t', by show ext (exts o C j) (C j) = _; rw [e', e, List.append_assoc]⟩
theorem exts_mem {o : List Int} {C : Nat → Gv} : ∀ {j k : Nat}, k < j → (C k).k = 4 → (C k).r ∈ exts o C j
  | 0, _, h, _ => by omega
  | j + 1, k, h, hk => by
    obtain ⟨t, e⟩ := ext_pre (exts o C j) (C j)
    by_cases q : k = j
    · subst q; exact ext_mem hk
    · show _ ∈ ext (exts o C j) (C j)
      rw [e]
      exact List.mem_append.2 (.inl (exts_mem (by omega) hk))
def nth (o : List Int) (i : Nat) : Nat := (o.getD i 0).toNat
/-- the nodes met when the first i of them have been gone through -/
def ords (F : Nat → Td) (o : List Int) : Nat → List Int
  | 0 => o
  | i + 1 => if i < (ords F o i).length then exts (ords F o i) (F (nth (ords F o i) i)).C (F (nth (ords F o i) i)).c else ords F o i
theorem ords_succ (F : Nat → Td) (o : List Int) (i : Nat) : ords F o (i + 1) = if i < (ords F o i).length then exts (ords F o i) (F (nth (ords F o i) i)).C (F (nth (ords F o i) i)).c else ords F o i := rfl
theorem ords_pre (F : Nat → Td) (o : List Int) (i : Nat) : ∃ t, ords F o (i + 1) = ords F o i ++ t := by
  rw [ords_succ]
  split
  · exact exts_pre _ _ _
  · exact ⟨[], (List.append_nil _).symm⟩
/-- a list of nodes of a graph of n, none twice -/
structure Nl (n : Nat) (o : List Int) : Prop where
  nd : o.Nodup
  rg : ∀ x, x ∈ o → 0 ≤ x ∧ x < (n : Int)
theorem nl_len : ∀ (n : Nat) (o : List Int), Nl n o → o.length ≤ n
  | 0, o, h => by
    cases o with
    | nil => exact Nat.le_refl _
    | cons x r => have := h.rg x (List.mem_cons_self); omega
  | n + 1, o, h => by
    by_cases q : (n : Int) ∈ o
    · have e := List.length_erase_of_mem q
      have hp : 0 < o.length := List.length_pos_of_mem q
      have := nl_len n (o.erase (n : Int)) ⟨h.nd.erase _, fun x hx => by
        obtain ⟨h1, h2⟩ := (h.nd.mem_erase_iff).1 hx
        have := h.rg x h2
        omega⟩
      omega
    · have := nl_len n o ⟨h.nd, fun x hx => by
        have := h.rg x hx
        have : x ≠ (n : Int) := fun e => q (e ▸ hx)
        omega⟩
      omega
theorem nl_ext {n : Nat} {o : List Int} {v : Gv} (h : Nl n o) (hv : v.k = 4 → 0 ≤ v.r ∧ v.r < (n : Int)) : Nl n (ext o v) := by
  unfold ext
  split
  · rename_i hk
    split
    · exact h
    · rename_i hm
      refine ⟨?_, fun x hx => ?_⟩
      · rw [List.nodup_append]
        refine ⟨h.nd, List.nodup_cons.2 ⟨by simp, List.nodup_nil⟩, ?_⟩
        intro a ha b hb e
        rw [List.mem_singleton] at hb
        subst hb
        exact hm (e ▸ ha)
      · rcases List.mem_append.1 hx with q | q
        · exact h.rg x q
        · rw [List.mem_singleton] at q
          subst q
          exact hv hk
  · exact h
theorem nl_exts {n : Nat} {o : List Int} {C : Nat → Gv} (h : Nl n o) : ∀ j, (∀ k, k < j → (C k).k = 4 → 0 ≤ (C k).r ∧ (C k).r < (n : Int)) → Nl n (exts o C j)
  | 0, _ => h
  | j + 1, hv => nl_ext (nl_exts h j (fun k hk => hv k (by omega))) (hv j (by omega))
/-- the place of a node in the list, -1 when it is not there -/
def wh (o : List Int) (j : Nat) : Int := if (j : Int) ∈ o then (o.idxOf (j : Int) : Int) else -1
/-- the row 'where' of the model -/
def Wh (G n : Nat) (o : List Int) (W : World) : Prop := (∀ j, j < n → W.cell? ⟨G, j, none⟩ = some (.int .i64 (wh o j))) ∧ ∀ j, W.frozen? ⟨G, j, none⟩ = false
theorem wh_app {o : List Int} {r j : Nat} (h : ¬ (r : Int) ∈ o) : wh (o ++ [(r : Int)]) j = if j = r then (o.length : Int) else wh o j := by
  unfold wh
  by_cases e : j = r
  · subst e
    rw [if_pos rfl, if_pos (List.mem_append.2 (.inr (List.mem_singleton.2 rfl))), List.idxOf_append, if_neg h]
    simp
  · rw [if_neg e]
    by_cases q : (j : Int) ∈ o
    · rw [if_pos (List.mem_append.2 (.inl q)), if_pos q, List.idxOf_append, if_pos q]
    · rw [if_neg, if_neg q]
      intro z
      rcases List.mem_append.1 z with z | z
      · exact q z
      · rw [List.mem_singleton] at z
        omega
theorem Wh.app {G n r : Nat} {o : List Int} {W : World} (h : Wh G n o W) (hr : r < n) (hm : ¬ (r : Int) ∈ o) : Wh G n (o ++ [(r : Int)]) (W.setCell ⟨G, r, none⟩ (.int .i64 (o.length : Int))) := by
  refine ⟨fun j hj => ?_, fun j => (set_fz _ _ _ _ _).trans (h.2 j)⟩
  rw [wh_app hm]
  by_cases e : j = r
  · subst e
    rw [if_pos rfl]
    exact set_eq _ _ _ _ _ (h.1 j hj)
  · rw [if_neg e, set_ne _ _ _ _ _ e]
    exact h.1 j hj
theorem Wh.keep {G n : Nat} {o : List Int} {W W' : World} (h : Wh G n o W) (hb : W'.heap[G]? = W.heap[G]?) : Wh G n o W' :=
  ⟨fun j hj => (World.cell?_of_block hb).trans (h.1 j hj), fun j => (World.frozen?_of_block hb).trans (h.2 j)⟩
/-- of the blocks that were there only G and r are written -/
structure Fo2 (G : Nat) (r : Option Nat) (W w' : World) : Prop where
  os : w'.os = W.os
  output : w'.output = W.output
  size : W.heap.size ≤ w'.heap.size
  block : ∀ k, k < W.heap.size → k ≠ G → some k ≠ r → w'.heap[k]? = W.heap[k]?
theorem Fo2.of_kb {G : Nat} {r : Option Nat} {W w' : World} (k : Kb 0 W w') : Fo2 G r W w' := ⟨k.os, k.output, k.size, fun i hi _ _ => k.block i (Nat.zero_le _) hi⟩
end Go.Proofs.Ytaggciimacanbaa.Fo

namespace Go.Proofs.Ytaggciimacanbaa.Fo
open Go.ChangeShapes Go.WideShapes Go.ChangeAt Go.RowKit
set_option linter.unusedVariables false
set_option maxRecDepth 100000
theorem infoI : (Try.prog.info? 3).map (fun i => (i.zero, i.size, i.bytes)) = some (some (.int .i64 0), 1, 8) := by kernel_rfl
theorem info_parts {t : TypeId} {z : Value} {s b : Nat} (h : (Try.prog.info? t).map (fun i => (i.zero, i.size, i.bytes)) = some (some z, s, b)) : ∃ i, Try.prog.info? t = some i ∧ i.zero = some z ∧ i.size = s ∧ i.bytes = b := by
  obtain ⟨i, h1, h2⟩ := Option.map_eq_some_iff.1 h
  simp only [Prod.mk.injEq] at h2
  exact ⟨i, h1, h2.1, h2.2.1, h2.2.2⟩
theorem qr_cells (w : World) (c : Array Value) (t : TypeId) (l : List Value) (hl : c.toList = l) : ∀ j u, l[j]? = some u → (w.alloc (.cells c t)).cell? ((⟨w.heap.size, 0, none⟩ : Addr).add j) = some u := by
  intro j u hj
  subst hl
  rw [addr0, World.cell?_alloc_mark]
  simpa using hj
abbrev ivs (o : List Int) : List Value := o.map (fun x => Value.int .i64 x)
theorem own_shape {W : World} {B t s n : Nat} {v : Value} {l : List Value} (h : W.ownsRow B t s v n l) : ∃ (ad : Option Addr) (cap : Nat), v = .slice ad n cap := by
  rcases h.2 with ⟨h1, e⟩ | ⟨g, cap, cur, rfl, _⟩
  · exact ⟨none, 0, by rw [e]; exact h1⟩
  · exact ⟨_, cap, rfl⟩
/-- an owned row stays where its block stays -/
theorem own_keep {W W' : World} {B t s n : Nat} {v : Value} {l : List Value} (h : W.ownsRow B t s v n l) (hb : ∀ g, v.ownBlock = some g → W'.heap[g]? = W.heap[g]?) : W'.ownsRow B t s v n l := by
  refine ⟨h.1, ?_⟩
  rcases h.2 with h1 | ⟨g, cap, cur, h1, h2, h3, h4⟩
  · exact .inl h1
  · exact .inr ⟨g, cap, cur, h1, h2, (hb g (by rw [h1]; rfl)).trans h3, h4⟩
/-- four cells written in a row -/
def s4 (W : World) (B : Nat) (k m : Int) (x : ByteArray) (r : Int) : World := (((W.setCell ⟨B, 0, none⟩ (.int .i64 k)).setCell ⟨B, 1, none⟩ (.int .i64 m)).setCell ⟨B, 2, none⟩ (.string x)).setCell ⟨B, 3, none⟩ (.int .i64 r)
theorem s4_far {k : Nat} (W : World) (B : Nat) (a m : Int) (x : ByteArray) {r : Int} (h : k ≠ B) : (s4 W B a m x r).heap[k]? = W.heap[k]? := by
  unfold s4
  rw [Below.heap_setCell _ _ _ _ h, Below.heap_setCell _ _ _ _ h, Below.heap_setCell _ _ _ _ h, Below.heap_setCell _ _ _ _ h]
theorem s4_size (W : World) (B : Nat) (a m : Int) (x : ByteArray) (r : Int) : (s4 W B a m x r).heap.size = W.heap.size := by
  unfold s4
  simp
theorem s4_cells {W : World} {B : Nat} {u0 u1 u2 u3 : Value} (h0 : W.cell? ⟨B, 0, none⟩ = some u0) (h1 : W.cell? ⟨B, 1, none⟩ = some u1) (h2 : W.cell? ⟨B, 2, none⟩ = some u2) (h3 : W.cell? ⟨B, 3, none⟩ = some u3) (k m : Int) (x : ByteArray) (r : Int) : (s4 W B k m x r).cell? ⟨B, 0, none⟩ = some (.int .i64 k) ∧ (s4 W B k m x r).cell? ⟨B, 1, none⟩ = some (.int .i64 m) ∧ (s4 W B k m x r).cell? ⟨B, 2, none⟩ = some (.string x) ∧ (s4 W B k m x r).cell? ⟨B, 3, none⟩ = some (.int .i64 r) := by
  unfold s4
  refine ⟨?_, ?_, ?_, ?_⟩
  · rw [set_ne _ _ _ _ _ (by decide), set_ne _ _ _ _ _ (by decide), set_ne _ _ _ _ _ (by decide)]; exact set_eq _ _ _ _ _ h0
  · rw [set_ne _ _ _ _ _ (by decide), set_ne _ _ _ _ _ (by decide)]; exact set_eq _ _ _ _ _ ((set_ne _ _ _ _ _ (by decide)).trans h1)
  · rw [set_ne _ _ _ _ _ (by decide)]; exact set_eq _ _ _ _ _ ((set_ne _ _ _ _ _ (by decide)).trans ((set_ne _ _ _ _ _ (by decide)).trans h2))
  · exact set_eq _ _ _ _ _ ((set_ne _ _ _ _ _ (by decide)).trans ((set_ne _ _ _ _ _ (by decide)).trans ((set_ne _ _ _ _ _ (by decide)).trans h3)))
end Go.Proofs.Ytaggciimacanbaa.Fo

namespace Go.Proofs.Ytaggciimacanbaa.Fo
open Go.ChangeShapes Go.WideShapes Go.ChangeAt Go.RowKit
set_option linter.unusedVariables false
set_option maxRecDepth 100000
def gcl (g : Gv) : List Value := [.int .i64 g.k, .int .i64 g.m, .string g.x, .int .i64 g.r]
/-- the cells of the first j values of a row, renamed -/
def vcl (o : List Int) (C : Nat → Gv) : Nat → List Value
  | 0 => []
  | j + 1 => vcl o C j ++ gcl (rnm o (C j))
theorem vcl_pre {o t : List Int} {C : Nat → Gv} : ∀ {j : Nat}, (∀ k, k < j → (C k).k = 4 → (C k).r ∈ o) → vcl (o ++ t) C j = vcl o C j
  | 0, _ => rfl
  | j + 1, h => by
    show vcl (o ++ t) C j ++ gcl (rnm (o ++ t) (C j)) = vcl o C j ++ gcl (rnm o (C j))
    rw [vcl_pre (fun k hk => h k (by omega)), rnm_pre (h j (by omega))]
/-- the cells of the first k nodes of the answer, whose rows are V -/
def ncl (F : Nat → Td) (o : List Int) (V : Nat → Value) : Nat → List Value
  | 0 => []
  | k + 1 => ncl F o V k ++ [.int .i64 (F (nth o k)).t, V k]
theorem nth_pre {o t : List Int} {k : Nat} (h : k < o.length) : nth (o ++ t) k = nth o k := by
  unfold nth
  rw [List.getD, List.getD, List.getElem?_append_left h]
theorem ncl_pre {F : Nat → Td} {o t : List Int} {V : Nat → Value} : ∀ {k : Nat}, k ≤ o.length → ncl F (o ++ t) V k = ncl F o V k
  | 0, _ => rfl
  | k + 1, h => by
    show ncl F (o ++ t) V k ++ [.int .i64 (F (nth (o ++ t) k)).t, V k] = ncl F o V k ++ [.int .i64 (F (nth o k)).t, V k]
    rw [ncl_pre (by omega), nth_pre (by omega)]
theorem ncl_upd {F : Nat → Td} {o : List Int} {V : Nat → Value} {v : Value} {i : Nat} : ∀ {k : Nat}, k ≤ i → ncl F o (fun q => if q = i then v else V q) k = ncl F o V k
  | 0, _ => rfl
  | k + 1, h => by
    show ncl F o _ k ++ [.int .i64 (F (nth o k)).t, if k = i then v else V k] = ncl F o V k ++ [.int .i64 (F (nth o k)).t, V k]
    rw [ncl_upd (by omega), if_neg (by omega)]
/-- owned rows of elements of other types lie in other blocks -/
theorem own_ne {W : World} {B B' : Nat} {t t' : TypeId} {s s' n n' : Nat} {v v' : Value} {l l' : List Value} (h : W.ownsRow B t s v n l) (h' : W.ownsRow B' t' s' v' n' l') (ht : t ≠ t') {g : Nat} (e : v.ownBlock = some g) : some g ≠ v'.ownBlock := by
  intro e'
  rcases h.2 with ⟨q, _⟩ | ⟨g1, c1, u1, q1, _, q3, _⟩
  · rw [q] at e; cases e
  rcases h'.2 with ⟨p, _⟩ | ⟨g2, c2, u2, p1, _, p3, _⟩
  · rw [p] at e'; cases e'
  rw [q1] at e
  rw [p1] at e'
  have a : g1 = g := Option.some.inj e
  have b : g = g2 := Option.some.inj e'
  subst a
  subst b
  rw [q3] at p3
  injection p3 with p3
  injection p3 with _ p3
  exact ht p3
theorem own_ty {W : World} {B : Nat} {t t' : TypeId} {s n u : Nat} {v : Value} {l : List Value} {c : Array Value} (h : W.ownsRow B t s v n l) (hu : W.heap[u]? = some (.cells c t' (0, 0))) (ht : t ≠ t') {g : Nat} (e : v.ownBlock = some g) : g ≠ u := by
  rintro rfl
  rcases h.2 with ⟨q, _⟩ | ⟨g1, c1, u1, q1, _, q3, _⟩
  · rw [q] at e; cases e
  rw [q1] at e
  have a : g1 = g := Option.some.inj e
  subst a
  rw [q3] at hu
  injection hu with hu
  injection hu with _ hu
  exact ht hu
end Go.Proofs.Ytaggciimacanbaa.Fo

namespace Go.Proofs.Ytaggciimacanbaa.Fo
open Go.ChangeShapes Go.WideShapes Go.ChangeAt Go.RowKit
set_option linter.unusedVariables false
set_option maxRecDepth 100000
theorem own_base {W : World} {B B' : Nat} {t : TypeId} {s n : Nat} {v : Value} {l : List Value} (h : W.ownsRow B t s v n l) (hb : B' ≤ B) : W.ownsRow B' t s v n l := by
  refine ⟨h.1, ?_⟩
  rcases h.2 with h1 | ⟨g, cap, cur, h1, h2, h3⟩
  · exact .inl h1
  · exact .inr ⟨g, cap, cur, h1, Nat.le_trans hb h2, h3⟩
end Go.Proofs.Ytaggciimacanbaa.Fo

namespace Go.Proofs.Ytaggciimacanbaa.Fo
open Go.ChangeShapes Go.WideShapes Go.ChangeAt Go.RowKit
set_option linter.unusedVariables false
set_option maxRecDepth 100000
theorem ords_stop {F : Nat → Td} {o : List Int} {i : Nat} (h : (ords F o i).length ≤ i) : ∀ d, ords F o (i + d) = ords F o i
  | 0 => rfl
  | d + 1 => by
    show ords F o (i + d + 1) = _
    rw [ords_succ, ords_stop h d, if_neg (by omega)]
theorem vcl_len (o : List Int) (C : Nat → Gv) : ∀ j, (vcl o C j).length = j * 4
  | 0 => rfl
  | j + 1 => by
    show (vcl o C j ++ gcl (rnm o (C j))).length = _
    rw [List.length_append, vcl_len o C j]
    show j * 4 + 4 = _
    omega
theorem vcl_at (o : List Int) (C : Nat → Gv) {k t : Nat} (ht : t < 4) : ∀ {j}, k < j → (vcl o C j)[k * 4 + t]? = (gcl (rnm o (C k)))[t]?
  | 0, h => by omega
  | j + 1, h => by
    show (vcl o C j ++ gcl (rnm o (C j)))[k * 4 + t]? = _
    by_cases e : k = j
    · subst e
      rw [List.getElem?_append_right (by rw [vcl_len]; omega), vcl_len]
      congr 1
      omega
    · rw [List.getElem?_append_left (by rw [vcl_len]; omega)]
      exact vcl_at o C ht (by omega)
theorem ncl_len (F : Nat → Td) (o : List Int) (V : Nat → Value) : ∀ j, (ncl F o V j).length = j * 2
  | 0 => rfl
  | j + 1 => by
    show (ncl F o V j ++ [.int .i64 (F (nth o j)).t, V j]).length = _
    rw [List.length_append, ncl_len F o V j]
    show j * 2 + 2 = _
    omega
theorem ncl_at (F : Nat → Td) (o : List Int) (V : Nat → Value) {k t : Nat} (ht : t < 2) : ∀ {j}, k < j → (ncl F o V j)[k * 2 + t]? = ([.int .i64 (F (nth o k)).t, V k] : List Value)[t]?
  | 0, h => by omega
  | j + 1, h => by
    show (ncl F o V j ++ [.int .i64 (F (nth o j)).t, V j])[k * 2 + t]? = _
    by_cases e : k = j
    · subst e
      rw [List.getElem?_append_right (by rw [ncl_len]; omega), ncl_len]
      congr 1
      omega
    · rw [List.getElem?_append_left (by rw [ncl_len]; omega)]
      exact ncl_at F o V ht (by omega)
theorem own_cells {W : World} {B : Nat} {t : TypeId} {s n : Nat} {v : Value} {l : List Value} (h : W.ownsRow B t s v n l) (hn : 0 < n) : ∃ g cap, v = .slice (some ⟨g, 0, none⟩) n cap ∧ B ≤ g ∧ n ≤ cap ∧ ∀ i, i < n * s → W.cell? ⟨g, i, none⟩ = l[i]? := by
  have hlen := h.1
  rcases h.2 with ⟨_, e⟩ | ⟨g, cap, cur, h1, h2, h3, h4, h5, h6, h7⟩
  · omega
  · refine ⟨g, cap, h1, h2, h4, fun i hi => ?_⟩
    have e : l[i]? = cur[i]? := by
      rw [← h7, List.getElem?_take_of_lt hi, Array.getElem?_toList]
    have hl : i < l.length := by omega
    rw [List.getElem?_eq_getElem hl]
    rw [List.getElem?_eq_getElem hl] at e
    exact cell_of h3 e.symm
/-- the canonical nodes -/
def cnF (F : Nat → Td) (o : List Int) (k : Nat) : Td := ⟨(F (nth o k)).t, (F (nth o k)).c, fun j => rnm o ((F (nth o k)).C j)⟩
/-- links lead to nodes -/
structure Lk (n : Nat) (F : Nat → Td) (a : Gv) : Prop where
  lr : a.k = 4 → 0 ≤ a.r ∧ a.r < (n : Int)
  lv : ∀ i, i < n → ∀ j, j < (F i).c → ((F i).C j).k = 4 → 0 ≤ ((F i).C j).r ∧ ((F i).C j).r < (n : Int)
theorem nth_lt {n : Nat} {o : List Int} (h : Nl n o) {i : Nat} (hi : i < o.length) : nth o i < n ∧ o[i]? = some ((nth o i : Nat) : Int) := by
  have hm := h.rg o[i] (List.getElem_mem hi)
  have e : o.getD i 0 = o[i] := by rw [List.getD, List.getElem?_eq_getElem hi]; rfl
  unfold nth
  rw [e, List.getElem?_eq_getElem hi]
  exact ⟨by omega, by rw [Int.toNat_of_nonneg hm.1]⟩
/-- five cells written in a row -/
def s5 (W : World) (B : Nat) (k m : Int) (x : ByteArray) (r : Int) (v : Value) : World := (s4 W B k m x r).setCell ⟨B, 4, none⟩ v
theorem s5_far {k : Nat} (W : World) (B : Nat) (a m : Int) (x : ByteArray) {r : Int} (v : Value) (h : k ≠ B) : (s5 W B a m x r v).heap[k]? = W.heap[k]? := by
  unfold s5
  rw [Below.heap_setCell _ _ _ _ h, s4_far _ _ _ _ _ h]
theorem s5_size (W : World) (B : Nat) (a m : Int) (x : ByteArray) (r : Int) (v : Value) : (s5 W B a m x r v).heap.size = W.heap.size := by
  unfold s5
  rw [World.size_setCell, s4_size]
theorem s4_known {W : World} {B : Nat} {u0 u1 u2 u3 u4 : Value} {t : TypeId} (h : W.heap[B]? = some (.cells #[u0, u1, u2, u3, u4] t (0, 0))) (k m : Int) (x : ByteArray) (r : Int) : (s4 W B k m x r).heap[B]? = some (.cells #[.int .i64 k, .int .i64 m, .string x, .int .i64 r, u4] t (0, 0)) := by
  unfold s4
  have h0 : (W.setCell ⟨B, 0, none⟩ (.int .i64 k)).heap[B]? = some (.cells #[.int .i64 k, u1, u2, u3, u4] t (0, 0)) := set_known _ h
  have h1 : ((W.setCell ⟨B, 0, none⟩ (.int .i64 k)).setCell ⟨B, 1, none⟩ (.int .i64 m)).heap[B]? = some (.cells #[.int .i64 k, .int .i64 m, u2, u3, u4] t (0, 0)) := set_known _ h0
  have h2 : (((W.setCell ⟨B, 0, none⟩ (.int .i64 k)).setCell ⟨B, 1, none⟩ (.int .i64 m)).setCell ⟨B, 2, none⟩ (.string x)).heap[B]? = some (.cells #[.int .i64 k, .int .i64 m, .string x, u3, u4] t (0, 0)) := set_known _ h1
  exact set_known _ h2
theorem s5_known {W : World} {B : Nat} {u0 u1 u2 u3 u4 : Value} {t : TypeId} (h : W.heap[B]? = some (.cells #[u0, u1, u2, u3, u4] t (0, 0))) (k m : Int) (x : ByteArray) (r : Int) (v : Value) : (s5 W B k m x r v).heap[B]? = some (.cells #[.int .i64 k, .int .i64 m, .string x, .int .i64 r, v] t (0, 0)) := by
  unfold s5
  exact set_known _ (s4_known h k m x r)
/-- the row 'where' while it is filled -/
def WhP (G n k : Nat) (W : World) : Prop := (∀ j, j < n → W.cell? ⟨G, j, none⟩ = some (.int .i64 (if j < k then -1 else 0))) ∧ ∀ j, W.frozen? ⟨G, j, none⟩ = false
theorem WhP.step {G n k : Nat} {W : World} (h : WhP G n k W) (hk : k < n) : WhP G n (k + 1) (W.setCell ⟨G, k, none⟩ (.int .i64 (-1))) := by
  refine ⟨fun j hj => ?_, fun j => (set_fz _ _ _ _ _).trans (h.2 j)⟩
  by_cases e : j = k
  · subst e
    rw [if_pos (by omega)]
    exact set_eq _ _ _ _ _ (h.1 j hj)
  · rw [set_ne _ _ _ _ _ e, h.1 j hj]
    by_cases q : j < k
    · rw [if_pos q, if_pos (by omega)]
    · rw [if_neg q, if_neg (by omega)]
theorem WhP.full {G n : Nat} {W : World} (h : WhP G n n W) : Wh G n [] W :=
  ⟨fun j hj => by rw [h.1 j hj, if_pos hj]; rfl, h.2⟩
theorem WhP.keep {G n k : Nat} {W W' : World} (h : WhP G n k W) (hb : W'.heap[G]? = W.heap[G]?) : WhP G n k W' :=
  ⟨fun j hj => (World.cell?_of_block hb).trans (h.1 j hj), fun j => (World.frozen?_of_block hb).trans (h.2 j)⟩
end Go.Proofs.Ytaggciimacanbaa.Fo
