import Derived.Test.YtjakooihcbdcaaaDoorMLda
import Derived.Test.YtjakooihcbdcaaaDoorMLsa
import Derived.Test.YtjakooihcbdcaaaDoorMChg
import Derived.Deep.RegionHeldLaw
import Derived.Laws.StructEq
import Derived.Test.YtjakooihcbdcaaaDoorMCdd
import Derived.Test.YtjakooihcbdcaaaDoorMCha
import Derived.Test.YtjakooihcbdcaaaDoorRows
import Derived.Deep.Slices
import Derived.SizedLaws
import Derived.Carry
import Derived.Lib.LaidTab
import Derived.OpenVars
set_option maxRecDepth 100000
namespace Go.Proofs.YtjakooihcbdcaaaDoor.Fo
open Go.ChangeShapes Go.WideShapes Go.ChangeAt Go.RowKit
set_option linter.unusedVariables false
set_option maxRecDepth 100000
def Gn (w : World) : Prop:=∀ o,o < 43 → w.cell? ⟨0,o,none⟩ = some (.string (opn o))
theorem Gn.keep {w w' : World} (h : Gn w) (k : Kb 0 w w') : Gn w':=fun o ho=>k.cell (h o ho)
theorem gPow : Tryd.prog.globalNamed "internal/strconv.uint64pow10" = some 3:=by kernel_rfl
theorem pw_keep {w W : World} (h : Pw w) (k : Kb 0 w W) : Pw W:=by
  unfold Pw Lib.TabIs World.var? at h ⊢
  rw [gPow] at h ⊢
  simp only [Option.bind_some] at h ⊢
  have hlt : 3 < w.heap.size:=by
    cases e : w.heap[3]? with
    | none=>simp [e] at h
    | some o=>exact (Array.getElem?_eq_some_iff.1 e).1
  rw [k.block _ (Nat.zero_le _) hlt]
  exact h
def BK (w0 : World) (l : List UInt8) (W : World) : Prop:=Lib.IsBuilderF 53 5 w0.heap.size w0.heap.size (Lib.byteCells l) W ∧ Kb 0 w0 W
theorem bat_keep {B b : Nat} {p : Value} {bs : List Value} {W W' : World} (h : Lib.BuilderAtF 53 5 B b p bs W) (k : Kb 0 W W') : Lib.BuilderAtF 53 5 B b p bs W':=by
  obtain ⟨h1,v,h2,h3,h4⟩:=h
  have hlt : ∀ {g : Nat} {o : Obj},W.heap[g]? = some o → W'.heap[g]? = some o:=fun {g o} e=>(k.block g (Nat.zero_le _) (Array.getElem?_eq_some_iff.1 e).1).trans e
  refine ⟨h1,v,hlt h2,⟨h3.1,?_⟩,h4⟩
  rcases h3.2 with e | ⟨g,cap,cur,fz,e1,e2,e3,e4⟩
  · exact .inl e
  · exact .inr ⟨g,cap,cur,fz,e1,e2,hlt e3,e4⟩
theorem BK.call {w0 W W' : World} {l : List UInt8} (h : BK w0 l W) (k : Kb 0 W W') : BK w0 l W' :=
  ⟨h.1.elim (fun q=>.inl (bat_keep q k)) (fun q=>.inr (bat_keep q k)),h.2.trans k⟩
theorem bk_below {w0 W W' : World} (h : Kb 0 w0 W) (b : Below w0.heap.size W W') : Kb 0 w0 W':=⟨b.os.trans h.os,b.output.trans h.output,Nat.le_trans h.size b.size,fun k _ hk=>(b.block k hk).trans (h.block k (Nat.zero_le _) hk)⟩
theorem BK.write {w0 W : World} {l : List UInt8} (h : BK w0 l W) (s : ByteArray) (hlen : l.length + s.size ≤ 140737488355328) :
    Calls Tryd.prog 16 #[.pointer (some ⟨w0.heap.size,0,none⟩),.string s] W fun e w'=>e = .returned (.tuple #[.int .i64 s.size,.nilIface]) ∧ BK w0 (l ++ s.data.toList) w' ∧ Lib.OthersKept 5 (some w0.heap.size) W w':=by
  refine (bldString _ _ _ s W h.1 (by simpa [Lib.byteCells] using hlen) h.2.size).mono ?_
  rintro e w' ⟨rfl,q1,q2,q3⟩
  refine ⟨rfl,⟨.inr ?_,bk_below h.2 q2⟩,q3⟩
  rw [bc_append,← sc_str]
  exact q1
theorem BK.text {w0 W : World} {l : List UInt8} (h : BK w0 l W) :
    Calls Tryd.prog 18 #[.pointer (some ⟨w0.heap.size,0,none⟩)] W fun e w'=>e = .returned (.string ⟨l.toArray⟩) ∧ Kb 0 w0 w' :=
  (bldText _ _ l W h.1 h.2.size).mono fun _ _ ⟨e,_,b,_⟩=>⟨e,bk_below h.2 b⟩
theorem bk_new (w : World) : BK w [] (w.alloc (.cells #[.pointer none,.slice none 0 0] 53)) :=
  ⟨.inl ⟨Nat.le_refl _,.slice none 0 0,alloc_new _ _ _,⟨rfl,.inl ⟨rfl,rfl⟩⟩,by simp [Value.ownBlock]⟩,kb_alloc _ _ _⟩
theorem im_itoa (n : Int) (h0 : -9223372036854775808 ≤ n) (h1 : n ≤ 9223372036854775807) (w : World) (hp : Pw w) :
    Calls Tryd.prog 33 #[.int .i64 n] w fun e w'=>e = .returned (.string (itx n)) ∧ Kb 0 w w':=(impl_itoa n h0 h1 w hp).mono fun _ _ ⟨e,b⟩=>⟨e,Kb.of_below b 0⟩
theorem laidOut : laidOutB Tryd.prog = true:=by kernel_rfl
theorem rCode : Tryd.prog.readableRec 24 = true ∧ 24 < Tryd.prog.types.size:=⟨by kernel_rfl,of_decide_eq_true (by kernel_rfl)⟩
theorem cellsCd : Tryd.prog.cellsOf 24 = 1:=by kernel_rfl
theorem code_stays {H : Type} {enc : TypeId × Value → H} {W W' : World} {v : Value} {d : DataW H} {p : List MemPlace} (h : DataW.Trod enc Tryd.prog W 0 (fun _=>true) true 24 v d p) (hlt : ∀ x ∈ p,x.block < W.heap.size) (hg : Kb 0 W W') : DataW.Trod enc Tryd.prog W' 0 (fun b=>decide (b < W.heap.size)) true 24 v d p:=by
  obtain ⟨fuel,hf⟩:=h
  refine ⟨fuel,DataW.trod_stays (kids_book laidOut rCode.1) (book_sized rCode.1) (fun h=>by cases h) ⟨rCode.2,book_self 24⟩ hf (fun x hx=>?_) (fun x hx=>by simpa using hlt x hx)⟩
  have hb:=hlt x hx
  cases x with
  | cell b o=>exact World.cell?_of_block (w:=W) (hg.block b (Nat.zero_le _) hb)
  | map b=>exact hg.block b (Nat.zero_le _) hb
section
variable {H : Type} {enc : TypeId × Value → H} {w : World} {base : Nat} {sp : Nat → Bool} {held : Bool}
theorem cellsPs : Tryd.prog.cellsOf 22 = 1:=by kernel_rfl
theorem read_code {cs : Array Value} {d : DataW H} {p : List MemPlace} (hcz : cs.size = 1) (h : DataW.Trod enc Tryd.prog w base sp held 24 (.agg cs) d p) (hz : Sz 24 d) : ∃ (va : Value) (nf : Nat) (F : Nat → Pd),(Value.agg cs) = .agg #[va] ∧ RowP 0 w va nf F ∧ (nf : Int) < 140737488355328 ∧ ∀ i,i < nf → RdP (F i):=by
  obtain ⟨fuel,hf⟩:=h
  obtain ⟨xs,n,_,hx,hl,hxl,hfi⟩:=DataW.trod_struct Tryd.underlying24 hf
  have hd:=congrArg Prod.fst hx
  dsimp only at hd
  subst hd
  obtain ⟨l⟩:=cs
  match l,hcz with
  | [c0],_ =>
    match xs,hxl with
    | [y0],_ =>
      have t0:=hfi 0 _ rfl
      simp [Value.cells,cellsPs] at t0
      obtain ⟨va,nf,F,e0,ra,sa,sa'⟩:=read_pros t0 (fun n hn=>hz n (by simp [DataW.weights,Tryd.underlying24,DataW.weightsEach,hn]))
      simp only [List.cons.injEq,and_true] at e0
      subst e0
      exact ⟨_,nf,F,rfl,ra,sa,sa'⟩
end
theorem cells_of_tab2 {H : Type} {enc : TypeId × Value → H} {P : Program} {w : World} {base : Nat} {sp : Nat → Bool} {held : Bool} {fuel : Nat} {t e e2 : TypeId} {n m : Nat} {k : IntKind} {cs : List Value} {zss : List (List Int)} {p : List MemPlace}
    (ht : P.underlying t = some (.array n e)) (he : P.underlying e = some (.array m e2)) (he2 : P.underlying e2 = some (.int k)) (hc2 : P.cellsOf e2 = 1) (hce : P.cellsOf e = m) (hct : P.cellsOf t = n * m)
    (h : DataW.trod enc P w base sp held fuel t cs = some (.agg (zss.map (Lib.tabData k)),p)) : ∀ i j,i < n → j < m → cs[i * m + j]? = some (.int k ((zss.getD i []).getD j 0)):=by
  cases fuel with
  | zero=>simp [DataW.trod] at h
  | succ fuel =>
    simp only [DataW.trod,ht,hce,hct] at h
    split at h
    · rename_i hl
      obtain ⟨xs,hm,hx⟩:=Option.map_eq_some_iff.1 h
      have hxs : xs.map (·.1) = zss.map (Lib.tabData (H:=H) k):=by
        have:=congrArg Prod.fst hx
        simpa using this
      intro i j hi hj
      obtain ⟨b,hb,hf⟩:=Lib.mapM_at hm i i (by simp [hi])
      have h2 : (xs.map (·.1))[i]? = some b.1:=by simp [hb]
      rw [hxs] at h2
      simp only [List.getElem?_map,Option.map_eq_some_iff] at h2
      obtain ⟨zs,hz,hzb⟩:=h2
      have hf2 : DataW.trod enc P w base sp held fuel e ((cs.drop (i * m)).take m) = some (Lib.tabData k zs,b.2):=by
        rw [hzb];exact hf
      have hcs:=Lib.cells_of_tab he he2 hc2 hce hf2
      have h3 : ((cs.drop (i * m)).take m)[j]? = cs[i * m + j]?:=by simp [List.getElem?_drop,hj]
      rw [← h3,hcs]
      have hlen : zs.length = m:=by
        have:=congrArg List.length hcs
        simp at this
        have e1 : cs.length = n * m:=by simpa using hl
        have e2 : i * m + m ≤ n * m:=by
          have:=Nat.mul_le_mul_right m (show i + 1 ≤ n from hi)
          rw [Nat.succ_mul] at this
          exact this
        omega
      have hzd : zss.getD i [] = zs:=by simp [List.getD,hz]
      rw [hzd]
      simp [hlen,hj,List.getD]
    · cases h
theorem gI : Tryd.prog.globalNamed "loop.example/heddle/impl.instructions" = some 1:=by kernel_rfl
theorem tI : (Tryd.prog.globals[1]?).map (·.type) = some 136:=by kernel_rfl
theorem cI3 : Tryd.prog.cellsOf 136 = 43 * 4:=by kernel_rfl
theorem cI2 : Tryd.prog.cellsOf 135 = 4:=by kernel_rfl
theorem cI1 : Tryd.prog.cellsOf 134 = 1:=by kernel_rfl
def itb : List (List Int):=[[0,0,0,0],[1,0,0,0],[2,0,0,0],[0,0,0,0],[12,3,0,0],[12,22,0,0],[13,22,0,0],[12,17,0,0],[17,22,0,0],[12,4,0,0],[4,22,0,0],[12,5,0,0],[12,0,0,0],[16,22,22,0],[16,22,23,0],[12,22,22,0],[22,22,22,0],[12,7,22,0],[12,8,22,22],[6,0,0,0],[22,6,0,0],[22,6,0,0],[14,0,0,0],[18,22,0,0],[18,23,0,0],[12,23,0,0],[12,18,9,0],[14,18,0,0],[14,22,23,0],[23,0,0,0],[22,0,0,0],[6,11,0,0],[0,0,0,0],[10,0,0,0],[10,0,0,0],[22,23,0,0],[0,0,0,0],[19,0,0,0],[19,6,0,0],[19,6,0,0],[21,0,0,0],[20,6,14,0],[15,0,0,0]]
theorem laid_eq : (Rows.laid_loop_example_heddle_impl_instructions : DataW Unit) = .agg (itb.map (Lib.tabData .u8)):=by rfl
theorem itb_pr : ∀ o,o < 43 → ∀ j,j < 4 → (itb.getD o []).getD j 0 = (pr o j : Int):=by decide
theorem gd_head {W : World} {rest : List (String × DataW Unit)} (h : laidMet Tryd.prog (("loop.example/heddle/impl.instructions",Rows.laid_loop_example_heddle_impl_instructions) :: rest) W) : Gd W:=by
  obtain ⟨ps,⟨g',t',cs,fuel,p,q,hg',ht',hvar,hd,_,_⟩,_⟩:=h
  obtain rfl:=Option.some.inj (gI.symm.trans hg')
  obtain rfl:=Option.some.inj (tI.symm.trans ht')
  rw [laid_eq] at hd
  intro o ho j hj
  have:=World.var?_cell gI hvar (o * 4 + j)
  rw [this]
  have h2:=cells_of_tab2 Tryd.underlying136 Tryd.underlying135 Tryd.underlying134 cI1 cI2 cI3 hd o j ho hj
  rw [itb_pr o ho j hj] at h2
  simpa using h2
theorem kept_vars {H : Type} {enc : TypeId × Value → H} {P : Program} (hl : laidOutB P = true) {W W' : World} (hk : ∀ i, i < W.heap.size → W'.heap[i]? = W.heap[i]?) :
    ∀ {ns : List String} {gs : List (DataW H)} {ps : List MemPlace},varsRowed P ns = true → DataW.TrodVars enc P W (fun _=>true) ns gs ps → DataW.TrodVars enc P W' (fun b=>decide (b < W.heap.size)) ns gs ps
  | [],[],_,_,h=>h
  | [],_ :: _,_,_,h=>h.elim
  | _ :: _,[],_,_,h=>h.elim
  | n :: ns,d :: ds,ps,hv,h=>by
    have hin:=h.lt
    obtain ⟨g,t,cs,fuel,p,q,hg,hty,hc,hd,hr,hps⟩:=h
    subst hps
    have hv1:=hv
    unfold varsRowed at hv1
    rw [List.all_cons,Bool.and_eq_true,hg] at hv1
    have hrow : P.readableRec t = true ∧ t < P.types.size:=by
      cases hgl : P.globals[g]? with
      | none=>rw [hgl] at hty;cases hty
      | some gl =>
        rw [hgl] at hty
        have e : gl.type = t:=Option.some.inj hty
        have h1:=hv1.1
        rw [show (some g).bind (P.globals[·]?) = some gl from hgl] at h1
        subst e
        simpa using h1
    have hold : ∀ x ∈ p,x.block < W.heap.size:=fun x hx=>hin x (by simp [hx])
    have hgs : g < W.heap.size:=by
      unfold World.var? at hc
      rw [hg] at hc
      cases hh : W.heap[g]? with
      | none=>simp [hh] at hc
      | some o=>exact (Array.getElem?_eq_some_iff.1 hh).1
    refine ⟨g,t,cs,fuel,p,q,hg,hty,?_,?_,kept_vars hl hk (by unfold varsRowed;exact hv1.2) hr,rfl⟩
    · rw [← hc]
      unfold World.var?
      rw [hg]
      simp only [Option.bind_some]
      rw [hk g hgs]
    · refine DataW.trod_stays (kids_book hl hrow.1) (book_sized hrow.1) (fun h=>by cases h) ⟨hrow.2,book_self t⟩ hd (fun x hx=>?_) (fun x hx=>by simpa using hold x hx)
      have hb:=hold x hx
      cases x with
      | cell b o=>exact World.cell?_of_block (w:=W) (hk b hb)
      | map b=>exact hk b hb
theorem vars_two {H : Type} {enc : TypeId × Value → H} {P : Program} {W : World} {sp : Nat → Bool} {a b : String} {gs : List (DataW H)} {ps : List MemPlace} (h : DataW.TrodVars enc P W sp [a,b] gs ps) : ∃ x y,gs = [x,y]:=by
  match gs,h with
  | [],h=>exact h.elim
  | [x],h=>obtain ⟨_,_,_,_,_,_,_,_,_,_,h,_⟩:=h;exact h.elim
  | [x,y],h=>exact ⟨x,y,rfl⟩
  | x :: y :: z :: r,h=>obtain ⟨_,_,_,_,_,_,_,_,_,_,h,_⟩:=h;obtain ⟨_,_,_,_,_,_,_,_,_,_,h,_⟩:=h;exact h.elim
def strData {H : Type} (ls : List (List UInt8)) : DataW H:=.agg (ls.map fun l=>.lit (.string l))
def strVals (ls : List (List UInt8)) : List Value:=ls.map fun l=>Value.string ⟨l.toArray⟩
theorem strs_cells {H : Type} {enc : TypeId × Value → H} {P : Program} {w : World} {base : Nat} {sp : Nat → Bool} {held : Bool} {fuel : Nat} {t e : TypeId} {n : Nat} {cs : List Value} {ls : List (List UInt8)} {p : List MemPlace}
    (ht : P.underlying t = some (.array n e)) (he : P.underlying e = some .string) (hce : P.cellsOf e = 1) (hct : P.cellsOf t = n)
    (h : DataW.trod enc P w base sp held fuel t cs = some (strData ls,p)) : cs = strVals ls:=by
  cases fuel with
  | zero=>simp [DataW.trod] at h
  | succ fuel =>
    simp only [DataW.trod,ht,hce,hct,Nat.mul_one] at h
    split at h
    · rename_i hl
      obtain ⟨xs,hm,hx⟩:=Option.map_eq_some_iff.1 h
      have h1:=congrArg Prod.fst hx
      simp only [strData,DataW.agg.injEq] at h1
      have hlen:=Lib.mapM_length hm
      have hll : ls.length = n:=by
        have:=congrArg List.length h1
        simp at this hlen
        omega
      refine List.ext_getElem? fun i=>?_
      rcases Nat.lt_or_ge i n with hi | hi
      · obtain ⟨b,hb,hf⟩:=Lib.mapM_at hm i i (by simp [hi])
        obtain ⟨s,hc,hs,_⟩:=DataW.trod_string he hf
        have hci : cs[i]? = some (.string s):=by
          have:=congrArg (·[0]?) hc
          simpa [List.getElem?_take,List.getElem?_drop] using this
        have hbi : (xs.map (·.1))[i]? = some (.lit (.string s.data.toList)):=by simp [hb,hs]
        have hli : (ls.map fun l=>(DataW.lit (.string l) : DataW H))[i]? = some (.lit (.string s.data.toList)):=by rw [← hbi,← h1]
        rw [List.getElem?_map,Option.map_eq_some_iff] at hli
        obtain ⟨l,hl2,hl3⟩:=hli
        have hl4 : l = s.data.toList:=by simpa using hl3
        rw [hci,strVals,List.getElem?_map,hl2,hl4]
        simp
      · rw [List.getElem?_eq_none (by omega),List.getElem?_eq_none (by simp [strVals];omega)]
    · cases h
theorem strs_head {P : Program} {W : World} {name : String} {ls : List (List UInt8)} {rest : List (String × DataW Unit)} {g : Nat} {t e : TypeId} {n : Nat}
    (hg : P.globalNamed name = some g) (hty : (P.globals[g]?).map (·.type) = some t) (ht : P.underlying t = some (.array n e)) (he : P.underlying e = some .string) (hce : P.cellsOf e = 1) (hct : P.cellsOf t = n)
    (h : laidMet P ((name,strData ls) :: rest) W) : W.rangeAt g 0 (strVals ls):=by
  obtain ⟨ps,⟨g',t',cs,fuel,p,q,hg',ht',hvar,hd,_,_⟩,_⟩:=h
  obtain rfl:=Option.some.inj (hg.symm.trans hg')
  obtain rfl:=Option.some.inj (hty.symm.trans ht')
  intro j v hv
  have h1:=World.var?_cell hg hvar j
  rw [Nat.zero_add,h1,← hv,← strs_cells ht he hce hct hd]
  simp
theorem gO : Tryd.prog.globalNamed "loop.example/heddle/impl.opNames" = some 0:=by kernel_rfl
theorem tO : (Tryd.prog.globals[0]?).map (·.type) = some 59:=by kernel_rfl
theorem cO : Tryd.prog.cellsOf 59 = 43:=by kernel_rfl
theorem cS : Tryd.prog.cellsOf 9 = 1:=by kernel_rfl
theorem op_at : ∀ o,o < 43 → ∃ l,(opl.map fun x=>x.data.toList)[o]? = some l ∧ opn o = ⟨l.toArray⟩:=by
  intro o ho
  have hl : opl.length = 43:=rfl
  refine ⟨(opn o).data.toList,?_,rfl⟩
  unfold opn
  simp [List.getD,hl,ho]
theorem gn_head {W : World} {rest : List (String × DataW Unit)} (h : laidMet Tryd.prog (("loop.example/heddle/impl.opNames",strData (opl.map fun x=>x.data.toList)) :: rest) W) : Gn W:=by
  intro o ho
  have h1:=strs_head gO tO Tryd.underlying59 Tryd.underlying9 cS cO h
  obtain ⟨l,e1,e2⟩:=op_at o ho
  have h2:=h1 o (.string ⟨l.toArray⟩) (by unfold strVals;rw [List.getElem?_map,e1];rfl)
  rw [Nat.zero_add] at h2
  rw [e2]
  exact h2
theorem t10 : (Tryd.prog.globals[3]?).map (·.type) = some 155:=by kernel_rfl
theorem c10 : Tryd.prog.cellsOf 155 = 20:=by kernel_rfl
theorem cU : Tryd.prog.cellsOf 145 = 1:=by kernel_rfl
theorem pw_head {W : World} {rest : List (String × DataW Unit)} (h : laidMet Tryd.prog (("internal/strconv.uint64pow10",Rows.laid_internal_strconv_uint64pow10) :: rest) W) : Pw W:=by
  have e : Lib.pow10Tab = [1,10,100,1000,10000,100000,1000000,10000000,100000000,1000000000,10000000000,100000000000,1000000000000,10000000000000,100000000000000,1000000000000000,10000000000000000,100000000000000000,1000000000000000000,10000000000000000000]:=by decide +kernel
  unfold Pw
  rw [e]
  exact Lib.tabIs_of_head gPow t10 Tryd.underlying155 Tryd.underlying145 cU c10 h
end Go.Proofs.YtjakooihcbdcaaaDoor.Fo
