import Derived.Test.YtfpidccjcemcjaaUcc
import Derived.MapKept
import Derived.Laws.StructEq
namespace Go.Proofs.Ytfpidccjcemcjaa
open Go.ChangeShapes Go.WideShapes Go.ChangeAt Go.RowKit
set_option linter.unusedVariables false
set_option maxRecDepth 100000

/-- a key's mark as a value -/
def mkw (v : Vv) : Value := .agg #[.int .i64 v.k, .int .i64 (mk v).n, .string v.x, .int .i64 v.r]
theorem tK : Try.prog.underlying 93 = some (.struct (Try.prog.fieldsOf 93)) := by kernel_rfl
theorem hK : Try.prog.stoodInHeld 93 = false := by kernel_rfl
theorem mk_iff (a b : Vv) : mk a = mk b ↔ a.k = b.k ∧ (mk a).n = (mk b).n ∧ a.x.toList = b.x.toList ∧ a.r = b.r := by
  constructor
  · intro h
    exact ⟨congrArg Mk.k h, congrArg Mk.n h, congrArg Mk.x h, congrArg Mk.r h⟩
  · rintro ⟨h1, h2, h3, h4⟩
    have e : ∀ v : Vv, mk v = ⟨v.k, (mk v).n, v.x.toList, v.r⟩ := fun v => rfl
    rw [e a, e b, h1, h2, h3, h4]
theorem eq_mk0 (k n : Int) (x : ByteArray) (r : Int) (k' n' : Int) (x' : ByteArray) (r' : Int) (w : World) : (Op.equal 93 (.agg #[.int .i64 k, .int .i64 n, .string x, .int .i64 r]) (.agg #[.int .i64 k', .int .i64 n', .string x', .int .i64 r'])).run Try.prog w = .ok ((k == k') && ((n == n') && ((x.toList == x'.toList) && (r == r')))) w := by
  show (Op.equalIn (9999 + 1) 93 _ _).run Try.prog w = _
  rw [run_equalIn_struct w 9999 93 _ _ tK hK]
  simp only [Program.fieldsOf, Try.underlying93]
  cases h1 : (k == k') <;> cases h2 : (n == n') <;> cases h3 : (x.toList == x'.toList) <;> cases h4 : (r == r') <;> simp [go_sem, Try.underlying3, Try.underlying2, Try.underlying9, *]
theorem eq_mk (a b : Vv) (w : World) : (Op.equal 93 (mkw a) (mkw b)).run Try.prog w = .ok (dc (mk a = mk b)) w := by
  have h := eq_mk0 a.k (mk a).n a.x a.r b.k (mk b).n b.x b.r w
  have e : ((a.k == b.k) && (((mk a).n == (mk b).n) && ((a.x.toList == b.x.toList) && (a.r == b.r)))) = dc (mk a = mk b) := by
    by_cases q : mk a = mk b
    · rw [dc_t q]
      obtain ⟨h1, h2, h3, h4⟩ := (mk_iff a b).1 q
      rw [h1, h2, h3, h4]
      simp
    · rw [dc_f q, ← Bool.not_eq_true]
      intro g
      apply q
      rw [mk_iff]
      simpa using g
  rw [e] at h
  exact h
/-- the Turn at a key -/
noncomputable def look (m : Vv) : List (Vv × Int) → Option Int
  | [] => none
  | p :: L => if dc (mk m = mk p.1) then some p.2 else look m L
/-- the entries are those of the list -/
def Ents (l : List MapEntry) (L : List (Vv × Int)) : Prop := l.map (fun e => (e.key, e.val)) = L.map (fun p => (mkw p.1, Value.int .i64 p.2))
theorem run_ask (m : Vv) (w : World) : ∀ (l : List MapEntry) (L : List (Vv × Int)) (i : Nat), Ents l L → ∃ r, (Instr.findAsking 93 (mkw m) l i).run Try.prog w = .ok r w ∧ r.map Prod.snd = (look m L).map (fun t => Value.int .i64 t)
  | [], L, i, h => by
    have : L = [] := by
      cases L with
      | nil => rfl
      | cons p L => simp [Ents] at h
    subst this
    exact ⟨none, rfl, rfl⟩
  | e :: l, L, i, h => by
    cases L with
    | nil => simp [Ents] at h
    | cons p L =>
      have h' : (e.key = mkw p.1 ∧ e.val = .int .i64 p.2) ∧ Ents l L := by simpa [Ents] using h
      obtain ⟨⟨h1, h2⟩, h3⟩ := h'
      unfold Instr.findAsking
      simp only [Sem.run_bind, h1, eq_mk, Result.andThen_ok]
      unfold look
      cases q : dc (mk m = mk p.1)
      · simp only [Bool.false_eq_true, if_false]
        exact run_ask m w l L (i + 1) h3
      · simp only [if_true]
        exact ⟨some (i, e.val), rfl, by simp [h2]⟩
theorem run_findMk (m : Vv) (w : World) (l : List MapEntry) (L : List (Vv × Int)) (h : Ents l L) : ∃ r, (Instr.findKey 93 (mkw m) l).run Try.prog w = .ok r w ∧ r.map Prod.snd = (look m L).map (fun t => Value.int .i64 t) := by
  unfold Instr.findKey
  simp only [Sem.run_bind, run_underlying tK, Result.andThen_ok]
  cases l with
  | nil =>
    have : L = [] := by
      cases L with
      | nil => rfl
      | cons p L => simp [Ents] at h
    subst this
    exact ⟨none, rfl, rfl⟩
  | cons e l =>
    have : Instr.findNow (.struct (Try.prog.fieldsOf 93)) (mkw m) (e :: l) 0 = none := rfl
    rw [this]
    exact run_ask m w (e :: l) L 0 h
theorem run_checkMk (b : Bool) (m : Vv) (w : World) : (Instr.checkKey b 10000 93 (mkw m)).run Try.prog w = .ok () w := by kernel_rfl
/-- block M is a map with these keys and Turns -/
def Mp (w : World) (M : Nat) (L : List (Vv × Int)) : Prop := ∃ es clock, w.heap[M]? = some (.map es clock) ∧ Ents es.toList L
theorem tM : Try.prog.underlying 72 = some (.map 93 3) := by kernel_rfl
/-- what a look-up gives -/
noncomputable def lkv (o : Option Int) : Value := match o with
  | some t => .tuple #[.int .i64 t, .bool true]
  | none => .tuple #[.int .i64 0, .bool false]
theorem run_lookMk {w : World} {M : Nat} {L : List (Vv × Int)} (h : Mp w M L) (m : Vv) : (Instr.lookup 72 (.map (some M)) (mkw m) true).run Try.prog w = .ok (lkv (look m L)) w := by
  obtain ⟨es, clock, hb, he⟩ := h
  obtain ⟨r, hr, hv⟩ := run_findMk m w es.toList L he
  unfold Instr.lookup
  simp only [Sem.run_bind, run_underlying tM, Result.andThen_ok, MapKept.run_getObj_map hb, Sem.run_pure, run_checkMk, hr]
  cases r with
  | none =>
    have : look m L = none := by
      cases q : look m L with
      | none => rfl
      | some t => rw [q] at hv; cases hv
    rw [this]
    have hz : (zeroValue 3).run Try.prog w = .ok (.int .i64 0) w := by kernel_rfl
    simp only [Sem.run_bind, hz, Result.andThen_ok, Sem.run_pure]
    rfl
  | some p =>
    obtain ⟨i, v⟩ := p
    cases q : look m L with
    | none => rw [q] at hv; cases hv
    | some t =>
      rw [q] at hv
      have : v = .int .i64 t := by simpa using hv
      subst this
      rfl
/-- the world with another block M -/
def setB (w : World) (M : Nat) (o : Obj) : World := { w with heap := w.heap.setIfInBounds M o }
theorem run_updMk {w : World} {M : Nat} {L : List (Vv × Int)} (h : Mp w M L) (m : Vv) (t : Int) (hn : look m L = none) : ∃ o, (Instr.mapUpdate 72 (.map (some M)) (mkw m) (.int .i64 t)).run Try.prog w = .ok () (setB w M o) ∧ Mp (setB w M o) M (L ++ [(m, t)]) := by
  obtain ⟨es, clock, hb, he⟩ := h
  obtain ⟨r, hr, hv⟩ := run_findMk m w es.toList L he
  have hr0 : r = none := by
    cases r with
    | none => rfl
    | some p => rw [hn] at hv; cases hv
  subst hr0
  refine ⟨.map (es.push { key := mkw m, val := .int .i64 t, born := clock }) (clock + 1), ?_, ?_⟩
  · unfold Instr.mapUpdate
    simp only [Sem.run_bind, run_underlying tM, Result.andThen_ok, MapKept.run_getObj_map hb, run_checkMk, hr, MapKept.run_setObj_map _ hb]
    rfl
  · refine ⟨_, _, (MapKept.heap_set hb).1, ?_⟩
    unfold Ents at he ⊢
    simp [he]
theorem run_makeMk (n : Int) (w : World) : (Instr.makeMap 72 (some (.int .i64 n))).run Try.prog w = .ok (.map (some w.heap.size)) (w.alloc (.map #[] 0)) := by
  unfold Instr.makeMap
  simp only [Sem.run_bind, run_underlying tM, Result.andThen_ok]
  rfl
theorem Mp.new (w : World) : Mp (w.alloc (.map #[] 0)) w.heap.size [] := ⟨#[], 0, alloc_new _ _, rfl⟩
theorem Mp.kq {a w : World} {M : Nat} {L : List (Vv × Int)} (h : Mp a M L) (k : Kq a w) : Mp w M L := by
  obtain ⟨es, clock, hb, he⟩ := h
  refine ⟨es, clock, (k.block M ?_).trans hb, he⟩
  rcases Nat.lt_or_ge M a.heap.size with q | q
  · exact q
  · rw [Array.getElem?_eq_none q] at hb; cases hb
end Go.Proofs.Ytfpidccjcemcjaa
