import Derived.Test.YtomcmnompajnlaaGreatDoorCards
import Derived.Test.YtomcmnompajnlaaGreatDoorTie
import Derived.Test.YtomcmnompajnlaaGreatDoorBSpy
import Derived.Deep.DeepHandedRow
import Derived.Lib.LaidTab
import Derived.Stop.LaidErr
import Derived.Stop.ErrReads
import Derived.OpenVars
namespace Go.Proofs.YtomcmnompajnlaaGreatDoor
open Go.ChangeShapes Go.WideShapes Go.ChangeAt Go.RowKit
set_option linter.unusedVariables false
/-- a row of texts as it is listed -/
def strData {H : Type} (ls : List (List UInt8)) : DataW H := .agg (ls.map fun l => .lit (.string l))
def strVals (ls : List (List UInt8)) : List Value := ls.map fun l => Value.string ⟨l.toArray⟩
theorem strs_cells {H : Type} {enc : TypeId × Value → H} {P : Program} {w : World} {base : Nat} {sp : Nat → Bool} {held : Bool} {fuel : Nat} {t e : TypeId} {n : Nat} {cs : List Value} {ls : List (List UInt8)} {p : List MemPlace}
    (ht : P.underlying t = some (.array n e)) (he : P.underlying e = some .string) (hce : P.cellsOf e = 1) (hct : P.cellsOf t = n)
    (h : DataW.trod enc P w base sp held fuel t cs = some (strData ls, p)) : cs = strVals ls := by
  cases fuel with
  | zero => simp [DataW.trod] at h
  | succ fuel =>
    simp only [DataW.trod, ht, hce, hct, Nat.mul_one] at h
    split at h
    · rename_i hl
      obtain ⟨xs, hm, hx⟩ := Option.map_eq_some_iff.1 h
      have h1 := congrArg Prod.fst hx
      simp only [strData, DataW.agg.injEq] at h1
      have hlen := Lib.mapM_length hm
      have hll : ls.length = n := by
        have := congrArg List.length h1
        simp at this hlen
        omega
      refine List.ext_getElem? fun i => ?_
      rcases Nat.lt_or_ge i n with hi | hi
      · obtain ⟨b, hb, hf⟩ := Lib.mapM_at hm i i (by simp [hi])
        obtain ⟨s, hc, hs, _⟩ := DataW.trod_string he hf
        have hci : cs[i]? = some (.string s) := by
          have := congrArg (·[0]?) hc
          simpa [List.getElem?_take, List.getElem?_drop] using this
        have hbi : (xs.map (·.1))[i]? = some (.lit (.string s.data.toList)) := by simp [hb, hs]
        have hli : (ls.map fun l => (DataW.lit (.string l) : DataW H))[i]? = some (.lit (.string s.data.toList)) := by rw [← hbi, ← h1]
        rw [List.getElem?_map, Option.map_eq_some_iff] at hli
        obtain ⟨l, hl2, hl3⟩ := hli
        have hl4 : l = s.data.toList := by simpa using hl3
        rw [hci, strVals, List.getElem?_map, hl2, hl4]
        simp
      · rw [List.getElem?_eq_none (by omega), List.getElem?_eq_none (by simp [strVals]; omega)]
    · cases h
theorem strs_head {P : Program} {W : World} {name : String} {ls : List (List UInt8)} {rest : List (String × DataW Unit)} {g : Nat} {t e : TypeId} {n : Nat}
    (hg : P.globalNamed name = some g) (hty : (P.globals[g]?).map (·.type) = some t) (ht : P.underlying t = some (.array n e)) (he : P.underlying e = some .string) (hce : P.cellsOf e = 1) (hct : P.cellsOf t = n)
    (h : laidMet P ((name, strData ls) :: rest) W) : W.rangeAt g 0 (strVals ls) := by
  obtain ⟨ps, ⟨g', t', cs, fuel, p, q, hg', ht', hvar, hd, _, _⟩, _⟩ := h
  obtain rfl := Option.some.inj (hg.symm.trans hg')
  obtain rfl := Option.some.inj (hty.symm.trans ht')
  intro j v hv
  have h1 := World.var?_cell hg hvar j
  rw [Nat.zero_add, h1, ← hv, ← strs_cells ht he hce hct hd]
  simp
theorem gW : Tryz.prog.globalNamed "loop.example/heddle/impl.words" = some 3 := by kernel_rfl
theorem gM : Tryz.prog.globalNamed "loop.example/heddle/impl.marks" = some 4 := by kernel_rfl
theorem gX : Tryz.prog.globalNamed "loop.example/heddle/impl.infixes" = some 5 := by kernel_rfl
theorem gS : Tryz.prog.globalNamed "strconv.ErrSyntax" = some 8 := by kernel_rfl
theorem gR : Tryz.prog.globalNamed "strconv.ErrRange" = some 9 := by kernel_rfl
theorem tyW : (Tryz.prog.globals[3]?).map (·.type) = some 210 := by kernel_rfl
theorem tyM : (Tryz.prog.globals[4]?).map (·.type) = some 211 := by kernel_rfl
theorem tyX : (Tryz.prog.globals[5]?).map (·.type) = some 212 := by kernel_rfl
theorem tyS : (Tryz.prog.globals[8]?).map (·.type) = some 92 := by kernel_rfl
theorem tyR : (Tryz.prog.globals[9]?).map (·.type) = some 92 := by kernel_rfl
theorem cW : Tryz.prog.cellsOf 210 = 22 := by kernel_rfl
theorem cM : Tryz.prog.cellsOf 211 = 11 := by kernel_rfl
theorem cX : Tryz.prog.cellsOf 212 = 18 := by kernel_rfl
theorem cE : Tryz.prog.cellsOf 248 = 1 := by kernel_rfl
theorem cS : Tryz.prog.cellsOf 9 = 1 := by kernel_rfl
theorem star : "*" ++ "errors.errorString" = "*errors.errorString" := by decide
theorem rowE (u : TypeId) (h : Tryz.prog.typeName? 3 u = some "*errors.errorString") : u = 246 :=
  typeName_ptr_named (nm := "errors.errorString") (by rw [star]; kernel_rfl) (by kernel_rfl) (by decide) u (by rw [star]; exact h)
/-- what the list of a row lays -/
theorem gd_laid {W : World} (h : laidMet Tryz.prog Rows.fnExactSheetOkRow.laid W) : Gd W := by
  have h3 := laidMet.tail (laidMet.tail (laidMet.tail h))
  have h4 := laidMet.tail h3
  have h5 := laidMet.tail h4
  have h6 := laidMet.tail h5
  have h7 := laidMet.tail h6
  obtain ⟨ar, sr, hvr, _⟩ := laid_sentinel h3 gR tyR Tryz.underlying92 rowE Tryz.underlying246 Tryz.underlying248 rfl rfl Tryz.underlying9 cE cS
  obtain ⟨ay, ss, hvs, _⟩ := laid_sentinel h4 gS tyS Tryz.underlying92 rowE Tryz.underlying246 Tryz.underlying248 rfl rfl Tryz.underlying9 cE cS
  have e7 : W.cell? ⟨9, 0, none⟩ = some (.iface 246 (.pointer (some ar))) := by have h0 := World.var?_cell gR hvr 0; simpa using h0
  have e6 : W.cell? ⟨8, 0, none⟩ = some (.iface 246 (.pointer (some ay))) := by have h0 := World.var?_cell gS hvs 0; simpa using h0
  exact ⟨strs_head (ls := wordsL) gW tyW Tryz.underlying210 Tryz.underlying9 cS cW h5, strs_head (ls := marksL) gM tyM Tryz.underlying211 Tryz.underlying9 cS cM h6, strs_head (ls := infixL) gX tyX Tryz.underlying212 Tryz.underlying9 cS cX h7, ⟨_, _, e7⟩, ⟨_, _, e6⟩, (by have h9 := Rd.lt_of_cell e7; omega)⟩
/-- named variables read as before where the old blocks are kept -/
theorem kept_vars {H : Type} {enc : TypeId × Value → H} {P : Program} (hl : laidOutB P = true) {W W' : World} (hk : ∀ i, i < W.heap.size → W'.heap[i]? = W.heap[i]?) :
    ∀ {ns : List String} {gs : List (DataW H)} {ps : List MemPlace}, varsRowed P ns = true → DataW.TrodVars enc P W (fun _ => true) ns gs ps → DataW.TrodVars enc P W' (fun b => decide (b < W.heap.size)) ns gs ps
  | [], [], _, _, h => h
  | [], _ :: _, _, _, h => h.elim
  | _ :: _, [], _, _, h => h.elim
  | n :: ns, d :: ds, ps, hv, h => by
    have hin := h.lt
    obtain ⟨g, t, cs, fuel, p, q, hg, hty, hc, hd, hr, hps⟩ := h
    subst hps
    have hv1 := hv
    unfold varsRowed at hv1
    rw [List.all_cons, Bool.and_eq_true, hg] at hv1
    have hrow : P.readableRec t = true ∧ t < P.types.size := by
      cases hgl : P.globals[g]? with
      | none => rw [hgl] at hty; cases hty
      | some gl =>
        rw [hgl] at hty
        have e : gl.type = t := Option.some.inj hty
        have h1 := hv1.1
        rw [show (some g).bind (P.globals[·]?) = some gl from hgl] at h1
        subst e
        simpa using h1
    have hold : ∀ x ∈ p, x.block < W.heap.size := fun x hx => hin x (by simp [hx])
    have hgs : g < W.heap.size := by
      unfold World.var? at hc
      rw [hg] at hc
      cases hh : W.heap[g]? with
      | none => simp [hh] at hc
      | some o => exact (Array.getElem?_eq_some_iff.1 hh).1
    refine ⟨g, t, cs, fuel, p, q, hg, hty, ?_, ?_, kept_vars hl hk (by unfold varsRowed; exact hv1.2) hr, rfl⟩
    · rw [← hc]
      unfold World.var?
      rw [hg]
      simp only [Option.bind_some]
      rw [hk g hgs]
    · refine DataW.trod_stays (kids_book hl hrow.1) (book_sized hrow.1) (fun h => by cases h) ⟨hrow.2, book_self t⟩ hd (fun x hx => ?_) (fun x hx => by simpa using hold x hx)
      have hb := hold x hx
      cases x with
      | cell b o => exact World.cell?_of_block (w := W) (hk b hb)
      | map b => exact hk b hb
theorem vars_three {H : Type} {enc : TypeId × Value → H} {P : Program} {W : World} {sp : Nat → Bool} {a b c : String} {gs : List (DataW H)} {ps : List MemPlace} (h : DataW.TrodVars enc P W sp [a, b, c] gs ps) : ∃ x y z, gs = [x, y, z] := by
  match gs, h with
  | [], h => exact h.elim
  | [x], h => obtain ⟨_, _, _, _, _, _, _, _, _, _, h, _⟩ := h; exact h.elim
  | [x, y], h => obtain ⟨_, _, _, _, _, _, _, _, _, _, h, _⟩ := h; obtain ⟨_, _, _, _, _, _, _, _, _, _, h, _⟩ := h; exact h.elim
  | [x, y, z], h => exact ⟨x, y, z, rfl⟩
  | x :: y :: z :: u :: r, h => obtain ⟨_, _, _, _, _, _, _, _, _, _, h, _⟩ := h; obtain ⟨_, _, _, _, _, _, _, _, _, _, h, _⟩ := h; obtain ⟨_, _, _, _, _, _, _, _, _, _, h, _⟩ := h; exact h.elim
end Go.Proofs.YtomcmnompajnlaaGreatDoor
