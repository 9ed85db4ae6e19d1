import Derived.Test.YtamcnmnaadpfoaaMUar
import Derived.Test.YtamcnmnaadpfoaaMPag
namespace Go.Proofs.Ytamcnmnaadpfoaa.Fo
open Go.ChangeShapes Go.WideShapes Go.ChangeAt Go.RowKit
set_option linter.unusedVariables false
set_option maxRecDepth 100000
/-- a thing that was read, as a node -/
def td9 (q : Int × List Gv) : Td := ⟨q.1, q.2.length, fun i => q.2.getD i default⟩
def TF (L : List (Int × List Gv)) : Nat → Td := fun i => td9 (L.getD i default)
theorem fm_at9 {α : Type} {cl : α → List Value} {wd : Nat} (hc : ∀ a, (cl a).length = wd) {L : List α} {m : Nat} {e : α} (h : L[m]? = some e) (r : Nat) (hr : r < wd) : (L.flatMap cl)[m * wd + r]? = (cl e)[r]? := by
  induction L generalizing m with
  | nil => simp at h
  | cons y L ih =>
    rw [List.flatMap_cons]
    cases m with
    | zero =>
      simp at h
      subst h
      rw [List.getElem?_append_left (by rw [hc]; omega)]
      simp
    | succ m =>
      simp at h
      have e1 : (m + 1) * wd = m * wd + wd := Nat.succ_mul _ _
      rw [List.getElem?_append_right (by rw [hc]; omega), ← ih h, hc]
      congr 1
      omega
theorem own_cells9 {α : Type} {cl : α → List Value} {wd : Nat} (hc : ∀ a, (cl a).length = wd) {w : World} {lo : Nat} {ty : TypeId} {v : Value} {L : List α} (d : α) (h : w.ownsRow lo ty wd v L.length (L.flatMap cl)) : ∃ pa cap, v = .slice pa L.length cap ∧ (0 < L.length → ∃ a : Addr, pa = some a ∧ L.length ≤ cap ∧ 0 ≤ a.block ∧ ∀ i, i < L.length → ∃ g : Nat, a.add (i * wd) = ⟨g, i * wd, none⟩ ∧ ∀ t, t < wd → w.cell? ⟨g, i * wd + t, none⟩ = (cl (L.getD i d))[t]?) := by
  obtain ⟨pa, cap, e⟩ := own_shape h
  refine ⟨pa, cap, e, fun hn => ?_⟩
  obtain ⟨g, cap', e2, h2, h3⟩ := h.form hn
  rw [e] at e2
  obtain ⟨rfl, _, rfl⟩ := (Value.slice.injEq _ _ _ _ _ _).mp e2
  have hcap : L.length ≤ cap := by
    rcases h.2 with ⟨h', _⟩ | ⟨g', c', cur, h', _, _, hcc, _⟩
    · rw [e] at h'
      cases h'
    · rw [e] at h'
      obtain ⟨_, _, rfl⟩ := (Value.slice.injEq _ _ _ _ _ _).mp h'
      exact hcc
  refine ⟨⟨g, 0, none⟩, rfl, hcap, Nat.zero_le _, fun i hi => ⟨g, ?_, fun t ht => ?_⟩⟩
  · simp [Addr.add]
    exact fun h => h.symm
  · rw [e] at h
    have hlt : i * wd + t < L.length * wd := by
      have := Nat.mul_le_mul_right wd (show i + 1 ≤ L.length from hi)
      rw [Nat.succ_mul] at this
      omega
    rw [h.cellAt _ hlt]
    exact fm_at9 hc (by simp [List.getD, List.getElem?_eq_getElem hi]) t ht
theorem rowW_of9 {w : World} {lo : Nat} {v : Value} {L : List Gv} (h : w.ownsRow lo 41 4 v L.length (L.flatMap glc)) : RowW 0 w v L.length (fun i => L.getD i default) := by
  obtain ⟨pa, cap, e, h2⟩ := own_cells9 (cl := glc) (fun _ => rfl) default h
  refine ⟨pa, cap, e, fun hn => ?_⟩
  obtain ⟨a, e1, e2, e3, e4⟩ := h2 hn
  refine ⟨a, e1, e2, e3, fun i hi => ?_⟩
  obtain ⟨g, g1, g2⟩ := e4 i hi
  rw [g1]
  exact CelV.of g2
theorem rowT_of9 {w : World} {lo : Nat} {v : Value} {L : List TV} (h : w.ownsRow lo 50 2 v L.length (L.flatMap tvc)) {B : Nat} {ob : Option Nat} (ho : OwnT B w L ob) : RowT 0 w v L.length (TF (L.map (·.1))) := by
  obtain ⟨pa, cap, e, h2⟩ := own_cells9 (cl := tvc) (fun _ => rfl) ((0, []), .slice none 0 0) h
  refine ⟨pa, cap, e, fun hn => ?_⟩
  obtain ⟨a, e1, e2, e3, e4⟩ := h2 hn
  refine ⟨a, e1, e2, e3, fun i hi => ?_⟩
  obtain ⟨g, g1, g2⟩ := e4 i hi
  rw [g1]
  have hz : L[i]? = some L[i] := List.getElem?_eq_getElem hi
  have hD : L.getD i ((0, []), .slice none 0 0) = L[i] := by simp [List.getD, hz]
  have hF : TF (L.map (·.1)) i = td9 L[i].1 := by
    unfold TF
    simp [List.getD, hz]
  rw [hD] at g2
  rw [hF]
  obtain ⟨lo', hi', h1, _⟩ := ho
  exact ⟨_, CelT.of (f := td9 L[i].1) g2, rowW_of9 (h1 i _ hz).2.2.1⟩
theorem bg_of9 {L : List (Int × List Gv)} {a : Gv} (ht : ∀ q, q ∈ L → Ttt q) (ha : Rv9 a) (hn : L.length ≤ 600) : Bg L.length (TF L) a ∧ Rg L.length (TF L) a := by
  have hq : ∀ i, i < L.length → ∃ q, q ∈ L ∧ TF L i = td9 q := fun i hi => ⟨L[i], List.getElem_mem hi, by unfold TF; simp [List.getD, List.getElem?_eq_getElem hi]⟩
  have hg : ∀ i, i < L.length → ∀ j, j < (TF L i).c → Rv9 ((TF L i).C j) := fun i hi j hj => by
    obtain ⟨q, h1, h2⟩ := hq i hi
    rw [h2] at hj ⊢
    have hj' : j < q.2.length := hj
    have : (td9 q).C j = q.2[j] := by show q.2.getD j default = _; simp [List.getD, List.getElem?_eq_getElem hj']
    rw [this]
    exact (ht q h1).2.1 _ (List.getElem_mem hj')
  refine ⟨⟨by omega, by have := ha.x; omega, fun i hi => ?_, fun i hi j hj => by have := (hg i hi j hj).x; omega⟩, ⟨⟨ha.m0, ha.m1⟩, fun i hi j hj => ⟨(hg i hi j hj).m0, (hg i hi j hj).m1⟩⟩⟩
  obtain ⟨q, h1, h2⟩ := hq i hi
  rw [h2]
  have := (ht q h1).2.2
  show q.2.length ≤ _
  omega
end Go.Proofs.Ytamcnmnaadpfoaa.Fo

namespace Go.Proofs.Ytamcnmnaadpfoaa.Fo
open Go.ChangeShapes Go.WideShapes Go.ChangeAt Go.RowKit
set_option linter.unusedVariables false
set_option maxRecDepth 100000
theorem cat_congr9 {f g : Nat → List Int} : ∀ {n}, (∀ i, i < n → f i = g i) → cat f n = cat g n
  | 0, _ => rfl
  | n + 1, h => by
    show cat f n ++ f n = cat g n ++ g n
    rw [cat_congr9 (fun i hi => h i (by omega)), h n (by omega)]
theorem toI_take {α : Type} (f : α → List UInt8) (d : α) (L : List α) : ∀ n, n ≤ L.length → toI ((L.take n).flatMap f) = cat (fun i => toI (f (L.getD i d))) n
  | 0, _ => by rw [List.take_zero]; rfl
  | n + 1, h => by
    have hz : L[n]? = some L[n] := List.getElem?_eq_getElem (by omega)
    rw [List.take_add_one, hz, List.flatMap_append, toI_app, toI_take f d L n (by omega)]
    show _ = cat _ n ++ toI (f (L.getD n d))
    simp [List.getD, hz]
theorem toI_flat {α : Type} (f : α → List UInt8) (d : α) (L : List α) : toI (L.flatMap f) = cat (fun i => toI (f (L.getD i d))) L.length := by
  have := toI_take f d L L.length (Nat.le_refl _)
  rw [List.take_length] at this
  exact this
theorem toI_te (q : Int × List Gv) : toI (te q) = ndl (td9 q) := by
  unfold te t8 ndl td9
  rw [toI_app, toI_app, toI_vb, toI_vb, toI_flat v8 default, ← List.append_assoc]
  congr 1
  exact cat_congr9 (fun i _ => toI_v8 _)
/-- the bytes that are read are those that are written -/
theorem toI_g8 (y : Gv) (ys : List (Int × List Gv)) : toI (g8 y ys) = gbl y ys.length (TF ys) := by
  unfold g8 gbl
  rw [toI_app, toI_app, toI_vb, toI_v8, toI_flat te default, ← List.append_assoc]
  congr 1
  exact cat_congr9 (fun i _ => toI_te _)
/-- nodes as a list -/
def lF (n : Nat) (F : Nat → Td) : List (Int × List Gv) := (List.range n).map (fun i => ((F i).t, (List.range (F i).c).map (F i).C))
theorem lF_len (n : Nat) (F : Nat → Td) : (lF n F).length = n := by unfold lF; simp
theorem lF_at {n : Nat} (F : Nat → Td) {i : Nat} (h : i < n) : TF (lF n F) i = td9 ((F i).t, (List.range (F i).c).map (F i).C) := by
  unfold TF lF
  simp [List.getD, h]
theorem gbl_lF (A : Gv) (n : Nat) (F : Nat → Td) : gbl A n F = toI (g8 A (lF n F)) := by
  rw [toI_g8, lF_len]
  unfold gbl
  congr 1
  refine cat_congr9 (fun i hi => ?_)
  rw [lF_at F hi]
  unfold ndl td9
  simp only [List.length_map, List.length_range]
  congr 1
  refine cat_congr9 (fun j hj => ?_)
  simp [List.getD, hj]
end Go.Proofs.Ytamcnmnaadpfoaa.Fo

namespace Go.Proofs.Ytamcnmnaadpfoaa.Fo
open Go.ChangeShapes Go.WideShapes Go.ChangeAt Go.RowKit
set_option linter.unusedVariables false
set_option maxRecDepth 100000
theorem wv_rnm {n : Nat} {o : List Int} {v : Gv} (h : Vok n v) (hm : -9223372036854775808 ≤ v.m ∧ v.m ≤ 9223372036854775807) (ho : o.length ≤ 600) : Wv (rnm o v) := by
  have e2 : (rnm o v).m = v.m := by unfold rnm; split <;> rfl
  refine ⟨?_, by rw [e2]; exact hm.1, by rw [e2]; exact hm.2⟩
  by_cases h4 : v.k = 4
  · unfold rnm
    rw [if_pos h4]
    have hi := List.idxOf_le_length (a := v.r) (l := o)
    rcases h with h | h | h | h
    · have := h.1; omega
    · rcases h.1 with q | q <;> omega
    · have := h.1; omega
    · refine .inr (.inr (.inr ⟨h4, h.2.1, h.2.2.1, ?_, ?_⟩))
      · show 0 ≤ ((o.idxOf v.r : Nat) : Int); omega
      · show ((o.idxOf v.r : Nat) : Int) < ((5001 : Nat) : Int); omega
  · unfold rnm
    rw [if_neg h4]
    rcases h with h | h | h | h
    · exact .inl h
    · exact .inr (.inl h)
    · exact .inr (.inr (.inl h))
    · exact absurd h.1 h4
/-- the form that is written can be read again -/
theorem can_wv {n : Nat} {F : Nat → Td} {a : Gv} (h : Gok n F a) (hr : Rg n F a) : Wv (rnm (cO n F a) a) ∧ (∀ q, q ∈ lF (cO n F a).length (cF n F a) → Tok q) ∧ (lF (cO n F a).length (cF n F a)).length ≤ 600 := by
  have hnl := nl_cO (gok_lk h)
  have hl := Nat.le_trans (nl_len _ _ hnl) h.1
  refine ⟨wv_rnm h.2.1 hr.a0 hl, fun q hq => ?_, by rw [lF_len]; exact hl⟩
  unfold lF at hq
  obtain ⟨k, hk, rfl⟩ := List.mem_map.1 hq
  have hk := List.mem_range.1 hk
  have hx := (nth_lt hnl hk).1
  obtain ⟨⟨t0, t1, c⟩, hv⟩ := h.2.2 _ hx
  refine ⟨t0, ?_, fun y hy => ?_, ?_⟩
  · show (F (nth (cO n F a) k)).t ≤ _; omega
  · obtain ⟨j, hj, rfl⟩ := List.mem_map.1 hy
    have hj := List.mem_range.1 hj
    exact wv_rnm (hv j hj) (hr.f0 _ hx j hj) hl
  · show (List.map _ _).length ≤ 300
    rw [List.length_map, List.length_range]
    exact c
/-- what is packed begins, behind its head, with a form that can be read -/
theorem pck_read {n : Nat} {F : Nat → Td} {a : Gv} {M : List UInt8} (hr : Rg n F a) (hp : pck n F a = toI M) (hM : M ≠ []) : Gok n F a ∧ pfl n F a = toI M ∧ M.length ≤ 8192 ∧ ∃ (y : Gv) (ys : List (Int × List Gv)) (rest : List UInt8), Wv y ∧ (∀ q, q ∈ ys → Tok q) ∧ ys.length ≤ 600 ∧ M.drop 2 = g8 y ys ++ rest := by
  unfold pck at hp
  by_cases hd : Gok n F a ∧ (pfl n F a).length ≤ 8192
  · rw [if_pos (dc_t hd)] at hp
    obtain ⟨c1, c2, c3⟩ := can_wv hd.1 hr
    refine ⟨hd.1, hp, by rw [← toI_len, ← hp]; exact hd.2, _, _, e8 (sm64 (pbd n F a)) 8, c1, c2, c3, ?_⟩
    have e : M = [72, 49] ++ (g8 (rnm (cO n F a) a) (lF (cO n F a).length (cF n F a)) ++ e8 (sm64 (pbd n F a)) 8) := by
      refine toI_inj ?_
      rw [← hp, toI_app, toI_app, toI_e8, ← gbl_lF]
      unfold pfl
      rw [show pbd n F a = [72, 49] ++ gbl (rnm (cO n F a) a) (cO n F a).length (cF n F a) from rfl, List.append_assoc]
      rfl
    rw [e]
    rfl
  · rw [if_neg (by rw [dc_f hd]; simp)] at hp
    exact (hM (toI_inj (a := M) (b := []) (by rw [← hp]; rfl))).elim
end Go.Proofs.Ytamcnmnaadpfoaa.Fo

namespace Go.Proofs.Ytamcnmnaadpfoaa.Fo
open Go.ChangeShapes Go.WideShapes Go.ChangeAt Go.RowKit
set_option linter.unusedVariables false
set_option maxRecDepth 100000
/-- a graph that was read -/
abbrev Gr := Gv × List (Int × List Gv)
/-- behind the head lies g -/
def Rd (M : List UInt8) (g : Gr) : Prop := ∃ rest, Wv g.1 ∧ (∀ q, q ∈ g.2 → Tok q) ∧ g.2.length ≤ 600 ∧ M.drop 2 = g8 g.1 g.2 ++ rest
def gr0 : Gr := (⟨0, 0, ⟨#[]⟩, 0⟩, [])
/-- the answer of Unpack, by the bytes alone -/
def UnR (M : List UInt8) (ok : Bool) (g : Gr) : Prop :=
  (ok = true → M ≠ [] ∧ Rg g.2.length (TF g.2) g.1 ∧ pck g.2.length (TF g.2) g.1 = toI M ∧ ∀ g', Rd M g' → g = g') ∧ (ok = false → g = gr0 ∧ ∀ g', Rd M g' → M ≠ [] → pck g'.2.length (TF g'.2) g'.1 = toI M → False)
theorem unr_at {M : List UInt8} {g : Gr} (h : UnR M true g) : Rd M g := by
  obtain ⟨h1, h2, h3, h4⟩ := h.1 rfl
  obtain ⟨_, _, _, y, ys, rest, q1, q2, q3, q4⟩ := pck_read h2 h3 h1
  have hr : Rd M (y, ys) := ⟨rest, q1, q2, q3, q4⟩
  rw [h4 _ hr]
  exact hr
theorem UnR.uniq {M : List UInt8} {ok ok' : Bool} {g g' : Gr} (h : UnR M ok g) (h' : UnR M ok' g') : ok = ok' ∧ g = g' := by
  cases ok <;> cases ok'
  · exact ⟨rfl, (h.2 rfl).1.trans (h'.2 rfl).1.symm⟩
  · have q := h'.1 rfl
    exact ((h.2 rfl).2 g' (unr_at h') q.1 q.2.2.1).elim
  · have q := h.1 rfl
    exact ((h'.2 rfl).2 g (unr_at h) q.1 q.2.2.1).elim
  · exact ⟨rfl, (h.1 rfl).2.2.2 _ (unr_at h')⟩
theorem unr_long {M : List UInt8} (h : 8192 < M.length) : UnR M false gr0 := by
  refine ⟨fun e => (nomatch e), fun _ => ⟨rfl, fun g' h1 h2 h3 => ?_⟩⟩
  have e := congrArg List.length h3
  rw [toI_len] at e
  unfold pck at e
  split at e
  · rename_i hd
    by_cases hh : Gok g'.2.length (TF g'.2) g'.1 ∧ (pfl g'.2.length (TF g'.2) g'.1).length ≤ 8192
    · have := hh.2; omega
    · rw [dc_f hh] at hd; cases hd
  · simp at e; omega
/-- what was read answers: yes -/
theorem unr_yes {M : List UInt8} {g : Gr} (hr : Rg g.2.length (TF g.2) g.1) (hM : M ≠ []) (hp : pck g.2.length (TF g.2) g.1 = toI M) (hx : ∀ g', Rd M g' → g = g') : UnR M true g :=
  ⟨fun _ => ⟨hM, hr, hp, hx⟩, fun e => (nomatch e)⟩
/-- what was read answers: no -/
theorem unr_no {M : List UInt8} {g : Gr} {lost : Bool} (hx : ∀ g', Rd M g' → g = g' ∧ lost = false) (hn : lost = true ∨ pck g.2.length (TF g.2) g.1 ≠ toI M) : UnR M false gr0 := by
  refine ⟨fun e => (nomatch e), fun _ => ⟨rfl, fun g' h1 h2 h3 => ?_⟩⟩
  obtain ⟨e1, e2⟩ := hx g' h1
  rcases hn with hn | hn
  · rw [e2] at hn; cases hn
  · rw [e1] at hn; exact hn h3
end Go.Proofs.Ytamcnmnaadpfoaa.Fo
