import Derived.Test.YtogenhnonjkanaaDoorSae
import Derived.Deep.MidRow
namespace Go.Proofs.YtogenhnonjkanaaDoor
open Go.ChangeShapes Go.WideShapes Go.ChangeAt Go.RowKit
set_option linter.unusedVariables false
/-- how many bytes at the head are such -/
def rl (p : UInt8 → Bool) : List UInt8 → Nat
  | [] => 0
  | c :: r => if p c then 1 + rl p r else 0
theorem rl_le (p : UInt8 → Bool) : ∀ r : List UInt8, rl p r ≤ r.length
  | [] => by simp [rl]
  | c :: r => by unfold rl; have := rl_le p r; split <;> simp <;> omega
/-- where they end -/
def en (p : UInt8 → Bool) (L : List UInt8) (k : Nat) : Nat := k + rl p (L.drop k)
theorem en_ge (p : UInt8 → Bool) (L : List UInt8) (k : Nat) : k ≤ en p L k := by unfold en; omega
theorem en_le (p : UInt8 → Bool) (L : List UInt8) (k : Nat) (hk : k ≤ L.length) : en p L k ≤ L.length := by
  unfold en; have := rl_le p (L.drop k); rw [List.length_drop] at this; omega
theorem en_end {p : UInt8 → Bool} {L : List UInt8} {k : Nat} (h : L.length ≤ k) : en p L k = k := by unfold en; rw [List.drop_eq_nil_of_le h]; simp [rl]
theorem en_step {p : UInt8 → Bool} {L : List UInt8} {k : Nat} {x : UInt8} (h : L[k]? = some x) (hx : p x = true) : en p L k = en p L (k + 1) := by
  unfold en; rw [drop_cons h, rl, if_pos hx]; omega
theorem en_stop {p : UInt8 → Bool} {L : List UInt8} {k : Nat} {x : UInt8} (h : L[k]? = some x) (hx : p x = false) : en p L k = k := by
  unfold en; rw [drop_cons h, rl, if_neg (by simp [hx])]; rfl
/-- every byte between is such -/
theorem en_mid {p : UInt8 → Bool} {L : List UInt8} : ∀ (n k j : Nat), en p L k = k + n → k ≤ j → j < k + n → ∃ x, L[j]? = some x ∧ p x = true
  | 0, k, j, _, h1, h2 => by omega
  | n + 1, k, j, h, h1, h2 => by
    cases hx : L[k]? with
    | none => rw [en_end (List.getElem?_eq_none_iff.1 hx)] at h; omega
    | some x =>
      by_cases hp : p x = true
      · by_cases hj : j = k
        · subst hj; exact ⟨x, hx, hp⟩
        · exact en_mid n (k + 1) j (by rw [en_step hx hp] at h; omega) (by omega) (by omega)
      · rw [en_stop hx (by simpa using hp)] at h; omega
theorem getD_of {α : Type} (l : List α) (i : Nat) (d : α) (h : i < l.length) : l.getD i d = l[i] := by rw [List.getD, List.getElem?_eq_getElem h]; rfl
def isW (c : UInt8) : Bool := isL c || isD c
theorem isW_zero : isW 0 = false := by decide
/-- the words -/
def wordsL : List (List UInt8) := [[97, 110, 100], [98, 114, 101, 97, 107], [99, 97, 116, 99, 104], [99, 111, 110, 115, 116], [100, 101, 102, 101, 114], [101, 108, 105, 102], [101, 108, 115, 101], [102, 97, 108, 115, 101], [102, 110], [102, 111, 114], [105, 102], [105, 110], [108, 101, 116], [110, 101, 120, 116], [110, 105, 108], [110, 111, 116], [111, 114], [114, 101, 116, 117, 114, 110], [116, 104, 114, 111, 119], [116, 114, 117, 101], [116, 114, 121], [119, 104, 105, 108, 101]]
def wordsB (i : Nat) : ByteArray := ⟨(wordsL.getD i []).toArray⟩
def wordsA : Array Value := (wordsL.map (fun x => Value.string ⟨x.toArray⟩)).toArray
theorem words_len : wordsL.length = 22 := by decide
theorem words_size : wordsA.size = 22 := by simp [wordsA, words_len]
theorem words_get (i : Nat) (hi : i < 22) : wordsA[i]? = some (.string (wordsB i)) := by
  have h : i < wordsL.length := by rw [words_len]; exact hi
  simp [wordsA, wordsB, List.getElem?_eq_getElem h]
theorem words_list (i : Nat) : (wordsB i).data.toList = wordsL.getD i [] := by simp [wordsB]
/-- the marks -/
def marksL : List (List UInt8) := [[40], [41], [123], [125], [91], [93], [44], [61], [46], [46, 46, 46], [35]]
def marksB (i : Nat) : ByteArray := ⟨(marksL.getD i []).toArray⟩
def marksA : Array Value := (marksL.map (fun x => Value.string ⟨x.toArray⟩)).toArray
theorem marks_len : marksL.length = 11 := by decide
theorem marks_size : marksA.size = 11 := by simp [marksA, marks_len]
theorem marks_get (i : Nat) (hi : i < 11) : marksA[i]? = some (.string (marksB i)) := by
  have h : i < marksL.length := by rw [marks_len]; exact hi
  simp [marksA, marksB, List.getElem?_eq_getElem h]
theorem marks_list (i : Nat) : (marksB i).data.toList = marksL.getD i [] := by simp [marksB]
/-- the infix -/
def infixL : List (List UInt8) := [[43], [45], [42], [47], [47, 47], [37], [38], [124], [126], [60, 60], [62, 62], [46, 46], [61, 61], [126, 61], [60], [60, 61], [62], [62, 61]]
def infixB (i : Nat) : ByteArray := ⟨(infixL.getD i []).toArray⟩
def infixA : Array Value := (infixL.map (fun x => Value.string ⟨x.toArray⟩)).toArray
theorem infix_len : infixL.length = 18 := by decide
theorem infix_size : infixA.size = 18 := by simp [infixA, infix_len]
theorem infix_get (i : Nat) (hi : i < 18) : infixA[i]? = some (.string (infixB i)) := by
  have h : i < infixL.length := by rw [infix_len]; exact hi
  simp [infixA, infixB, List.getElem?_eq_getElem h]
theorem infix_list (i : Nat) : (infixB i).data.toList = infixL.getD i [] := by simp [infixB]
/-- a token's kind by its place among the words -/
def wfind (ws : List (List UInt8)) (x : List UInt8) : Option Nat := ws.findIdx? (fun y => y == x)
theorem wfind_some {ws : List (List UInt8)} {x : List UInt8} {i : Nat} (h1 : i < ws.length) (h : ws.getD i [] = x) (hb : ∀ j, j < i → ws.getD j [] ≠ x) : wfind ws x = some i := by
  unfold wfind
  rw [List.findIdx?_eq_some_iff_getElem]
  refine ⟨h1, ?_, fun j hj => ?_⟩
  · rw [getD_of _ _ _ h1] at h; simp [h]
  · have := hb j hj
    rw [getD_of _ _ _ (by omega)] at this
    simpa using this
theorem wfind_none {ws : List (List UInt8)} {x : List UInt8} (hb : ∀ j, j < ws.length → ws.getD j [] ≠ x) : wfind ws x = none := by
  unfold wfind
  rw [List.findIdx?_eq_none_iff]
  intro y hy
  obtain ⟨j, hj, rfl⟩ := List.mem_iff_getElem.1 hy
  have := hb j hj
  rw [getD_of _ _ _ hj] at this
  simpa using this
/-- two texts held against each other -/
theorem cmp_list (a b : ByteArray) : (a.toList == b.toList) = (a.data.toList == b.data.toList) := by rw [Lib.toList_data, Lib.toList_data]
theorem ext_list (T : ByteArray) (k j : Nat) : (T.extract k j).data.toList = (T.data.toList.drop k).take (j - k) := Lib.extract_data T k j
theorem spec_words (w : World) : Calls Tryd.prog 46 #[] w fun e w' => e = .returned (.slice (some ⟨w.heap.size, 0, none⟩) 22 22) ∧ w' = w.alloc (.cells wordsA 9) := by
  go_enter Tryd.func46, Tryd.ntmps46
  go_wp2
  go_ret
  exact ⟨rfl, rfl⟩
/-- a token as a value -/
def tokV (kind a b c num : Int) (t : ByteArray) : Value := .agg #[.int .i64 kind, .int .i64 a, .int .i64 b, .int .i64 c, .int .i64 num, .string t]
end Go.Proofs.YtogenhnonjkanaaDoor
