import Derived.Test.YtnmeemjoodoalaaGreatDoorMCdd
import Derived.Test.YtnmeemjoodoalaaGreatDoorMChb
import Derived.Test.YtnmeemjoodoalaaGreatDoorRows
import Derived.Deep.Slices
import Derived.SizedLaws
import Derived.Carry
import Derived.Lib.LaidTab
import Derived.OpenVars
import Derived.Test.YtnmeemjoodoalaaGreatDoorMCbf
set_option maxRecDepth 100000
namespace Go.Proofs.YtnmeemjoodoalaaGreatDoor.Fo
open Go.ChangeShapes Go.WideShapes Go.ChangeAt Go.RowKit
set_option linter.unusedVariables false
set_option maxRecDepth 100000
theorem laidOut : laidOutB Tryz.prog = true:=by kernel_rfl
theorem rCode : Tryz.prog.readableRec 24 = true ∧ 24 < Tryz.prog.types.size:=⟨by kernel_rfl,of_decide_eq_true (by kernel_rfl)⟩
theorem cellsCd : Tryz.prog.cellsOf 24 = 1:=by kernel_rfl
theorem code_stays {H : Type} {enc : TypeId × Value → H} {W W' : World} {v : Value} {d : DataW H} {p : List MemPlace} (h : DataW.Trod enc Tryz.prog W 0 (fun _=>true) true 24 v d p) (hlt : ∀ x ∈ p,x.block < W.heap.size) (hg : Kb 0 W W') : DataW.Trod enc Tryz.prog W' 0 (fun b=>decide (b < W.heap.size)) true 24 v d p:=by
  obtain ⟨fuel,hf⟩:=h
  refine ⟨fuel,DataW.trod_stays (kids_book laidOut rCode.1) (book_sized rCode.1) (fun h=>by cases h) ⟨rCode.2,book_self 24⟩ hf (fun x hx=>?_) (fun x hx=>by simpa using hlt x hx)⟩
  have hb:=hlt x hx
  cases x with
  | cell b o=>exact World.cell?_of_block (w:=W) (hg.block b (Nat.zero_le _) hb)
  | map b=>exact hg.block b (Nat.zero_le _) hb
section
variable {H : Type} {enc : TypeId × Value → H} {w : World} {base : Nat} {sp : Nat → Bool} {held : Bool}
theorem cellsPs : Tryz.prog.cellsOf 22 = 1:=by kernel_rfl
theorem read_code {cs : Array Value} {d : DataW H} {p : List MemPlace} (hcz : cs.size = 1) (h : DataW.Trod enc Tryz.prog w base sp held 24 (.agg cs) d p) (hz : Sz 24 d) : ∃ (va : Value) (nf : Nat) (F : Nat → Pd),(Value.agg cs) = .agg #[va] ∧ RowP 0 w va nf F ∧ (nf : Int) < 140737488355328 ∧ ∀ i,i < nf → RdP (F i):=by
  obtain ⟨fuel,hf⟩:=h
  obtain ⟨xs,n,_,hx,hl,hxl,hfi⟩:=DataW.trod_struct Tryz.underlying24 hf
  have hd:=congrArg Prod.fst hx
  dsimp only at hd
  subst hd
  obtain ⟨l⟩:=cs
  match l,hcz with
  | [c0],_ =>
    match xs,hxl with
    | [y0],_ =>
      have t0:=hfi 0 _ rfl
      simp [Value.cells,cellsPs] at t0
      obtain ⟨va,nf,F,e0,ra,sa,sa'⟩:=read_pros t0 (fun n hn=>hz n (by simp [DataW.weights,Tryz.underlying24,DataW.weightsEach,hn]))
      simp only [List.cons.injEq,and_true] at e0
      subst e0
      exact ⟨_,nf,F,rfl,ra,sa,sa'⟩
end
theorem cells_of_tab2 {H : Type} {enc : TypeId × Value → H} {P : Program} {w : World} {base : Nat} {sp : Nat → Bool} {held : Bool} {fuel : Nat} {t e e2 : TypeId} {n m : Nat} {k : IntKind} {cs : List Value} {zss : List (List Int)} {p : List MemPlace}
    (ht : P.underlying t = some (.array n e)) (he : P.underlying e = some (.array m e2)) (he2 : P.underlying e2 = some (.int k)) (hc2 : P.cellsOf e2 = 1) (hce : P.cellsOf e = m) (hct : P.cellsOf t = n * m)
    (h : DataW.trod enc P w base sp held fuel t cs = some (.agg (zss.map (Lib.tabData k)),p)) : ∀ i j,i < n → j < m → cs[i * m + j]? = some (.int k ((zss.getD i []).getD j 0)):=by
  cases fuel with
  | zero=>simp [DataW.trod] at h
  | succ fuel =>
    simp only [DataW.trod,ht,hce,hct] at h
    split at h
    · rename_i hl
      obtain ⟨xs,hm,hx⟩:=Option.map_eq_some_iff.1 h
      have hxs : xs.map (·.1) = zss.map (Lib.tabData (H:=H) k):=by
        have:=congrArg Prod.fst hx
        simpa using this
      intro i j hi hj
      obtain ⟨b,hb,hf⟩:=Lib.mapM_at hm i i (by simp [hi])
      have h2 : (xs.map (·.1))[i]? = some b.1:=by simp [hb]
      rw [hxs] at h2
      simp only [List.getElem?_map,Option.map_eq_some_iff] at h2
      obtain ⟨zs,hz,hzb⟩:=h2
      have hf2 : DataW.trod enc P w base sp held fuel e ((cs.drop (i * m)).take m) = some (Lib.tabData k zs,b.2):=by
        rw [hzb];exact hf
      have hcs:=Lib.cells_of_tab he he2 hc2 hce hf2
      have h3 : ((cs.drop (i * m)).take m)[j]? = cs[i * m + j]?:=by simp [List.getElem?_drop,hj]
      rw [← h3,hcs]
      have hlen : zs.length = m:=by
        have:=congrArg List.length hcs
        simp at this
        have e1 : cs.length = n * m:=by simpa using hl
        have e2 : i * m + m ≤ n * m:=by
          have:=Nat.mul_le_mul_right m (show i + 1 ≤ n from hi)
          rw [Nat.succ_mul] at this
          exact this
        omega
      have hzd : zss.getD i [] = zs:=by simp [List.getD,hz]
      rw [hzd]
      simp [hlen,hj,List.getD]
    · cases h
theorem gI : Tryz.prog.globalNamed "loop.example/heddle/impl.instructions" = some 0:=by kernel_rfl
theorem tI : (Tryz.prog.globals[0]?).map (·.type) = some 191:=by kernel_rfl
theorem cI3 : Tryz.prog.cellsOf 191 = 43 * 4:=by kernel_rfl
theorem cI2 : Tryz.prog.cellsOf 190 = 4:=by kernel_rfl
theorem cI1 : Tryz.prog.cellsOf 189 = 1:=by kernel_rfl
def itb : List (List Int):=[[0,0,0,0],[1,0,0,0],[2,0,0,0],[0,0,0,0],[12,3,0,0],[12,22,0,0],[13,22,0,0],[12,17,0,0],[17,22,0,0],[12,4,0,0],[4,22,0,0],[12,5,0,0],[12,0,0,0],[16,22,22,0],[16,22,23,0],[12,22,22,0],[22,22,22,0],[12,7,22,0],[12,8,22,22],[6,0,0,0],[22,6,0,0],[22,6,0,0],[14,0,0,0],[18,22,0,0],[18,23,0,0],[12,23,0,0],[12,18,9,0],[14,18,0,0],[14,22,23,0],[23,0,0,0],[22,0,0,0],[6,11,0,0],[0,0,0,0],[10,0,0,0],[10,0,0,0],[22,23,0,0],[0,0,0,0],[19,0,0,0],[19,6,0,0],[19,6,0,0],[21,0,0,0],[20,6,14,0],[15,0,0,0]]
theorem laid_eq : (Rows.laid_loop_example_heddle_impl_instructions : DataW Unit) = .agg (itb.map (Lib.tabData .u8)):=by rfl
theorem itb_pr : ∀ o,o < 43 → ∀ j,j < 4 → (itb.getD o []).getD j 0 = (pr o j : Int):=by decide
theorem gd_head {W : World} {rest : List (String × DataW Unit)} (h : laidMet Tryz.prog (("loop.example/heddle/impl.instructions",Rows.laid_loop_example_heddle_impl_instructions) :: rest) W) : Gd W:=by
  obtain ⟨ps,⟨g',t',cs,fuel,p,q,hg',ht',hvar,hd,_,_⟩,_⟩:=h
  obtain rfl:=Option.some.inj (gI.symm.trans hg')
  obtain rfl:=Option.some.inj (tI.symm.trans ht')
  rw [laid_eq] at hd
  intro o ho j hj
  have:=World.var?_cell gI hvar (o * 4 + j)
  rw [this]
  have h2:=cells_of_tab2 Tryz.underlying191 Tryz.underlying190 Tryz.underlying189 cI1 cI2 cI3 hd o j ho hj
  rw [itb_pr o ho j hj] at h2
  simpa using h2
theorem kept_vars {H : Type} {enc : TypeId × Value → H} {P : Program} (hl : laidOutB P = true) {W W' : World} (hk : ∀ i, i < W.heap.size → W'.heap[i]? = W.heap[i]?) :
    ∀ {ns : List String} {gs : List (DataW H)} {ps : List MemPlace},varsRowed P ns = true → DataW.TrodVars enc P W (fun _=>true) ns gs ps → DataW.TrodVars enc P W' (fun b=>decide (b < W.heap.size)) ns gs ps
  | [],[],_,_,h=>h
  | [],_ :: _,_,_,h=>h.elim
  | _ :: _,[],_,_,h=>h.elim
  | n :: ns,d :: ds,ps,hv,h=>by
    have hin:=h.lt
    obtain ⟨g,t,cs,fuel,p,q,hg,hty,hc,hd,hr,hps⟩:=h
    subst hps
    have hv1:=hv
    unfold varsRowed at hv1
    rw [List.all_cons,Bool.and_eq_true,hg] at hv1
    have hrow : P.readableRec t = true ∧ t < P.types.size:=by
      cases hgl : P.globals[g]? with
      | none=>rw [hgl] at hty;cases hty
      | some gl =>
        rw [hgl] at hty
        have e : gl.type = t:=Option.some.inj hty
        have h1:=hv1.1
        rw [show (some g).bind (P.globals[·]?) = some gl from hgl] at h1
        subst e
        simpa using h1
    have hold : ∀ x ∈ p,x.block < W.heap.size:=fun x hx=>hin x (by simp [hx])
    have hgs : g < W.heap.size:=by
      unfold World.var? at hc
      rw [hg] at hc
      cases hh : W.heap[g]? with
      | none=>simp [hh] at hc
      | some o=>exact (Array.getElem?_eq_some_iff.1 hh).1
    refine ⟨g,t,cs,fuel,p,q,hg,hty,?_,?_,kept_vars hl hk (by unfold varsRowed;exact hv1.2) hr,rfl⟩
    · rw [← hc]
      unfold World.var?
      rw [hg]
      simp only [Option.bind_some]
      rw [hk g hgs]
    · refine DataW.trod_stays (kids_book hl hrow.1) (book_sized hrow.1) (fun h=>by cases h) ⟨hrow.2,book_self t⟩ hd (fun x hx=>?_) (fun x hx=>by simpa using hold x hx)
      have hb:=hold x hx
      cases x with
      | cell b o=>exact World.cell?_of_block (w:=W) (hk b hb)
      | map b=>exact hk b hb
theorem vars_one {H : Type} {enc : TypeId × Value → H} {P : Program} {W : World} {sp : Nat → Bool} {a : String} {gs : List (DataW H)} {ps : List MemPlace} (h : DataW.TrodVars enc P W sp [a] gs ps) : ∃ x,gs = [x]:=by
  match gs,h with
  | [],h=>exact h.elim
  | [x],h=>exact ⟨x,rfl⟩
  | x :: y :: r,h=>obtain ⟨_,_,_,_,_,_,_,_,_,_,h,_⟩:=h;exact h.elim
def FzO (b : Nat) (W : World) (pa : Option Addr) (n cap : Nat) : Prop:=∃ g,pa = some ⟨g,0,none⟩ ∧ cap = n ∧ b ≤ g ∧ g < W.heap.size ∧ ∀ j,W.frozen? ⟨g,j,none⟩ = false
theorem FzO.keep {b : Nat} {W W' : World} {pa : Option Addr} {n cap : Nat} (h : FzO b W pa n cap) (k : Kb b W W') : FzO b W' pa n cap:=by
  obtain ⟨g,h1,h2,h3,h4,h5⟩:=h
  exact ⟨g,h1,h2,h3,Nat.lt_of_lt_of_le h4 k.size,fun j=>(k.frozen h3 h4).trans (h5 j)⟩
theorem FzO.mono {b c : Nat} {W : World} {pa : Option Addr} {n cap : Nat} (h : FzO b W pa n cap) (hc : c ≤ b) : FzO c W pa n cap:=by
  obtain ⟨g,h1,h2,h3,h4,h5⟩:=h
  exact ⟨g,h1,h2,Nat.le_trans hc h3,h4,h5⟩
def RowUF (b : Nat) (W : World) (v : Value) (n : Nat) (X : Nat → Bool × Int) : Prop:=∃ pa cap,v = .slice pa n cap ∧ RowU b W (.slice pa n cap) n X ∧ FzO b W pa n cap
theorem RowUF.keep {b : Nat} {W W' : World} {v : Value} {n : Nat} {X : Nat → Bool × Int} (h : RowUF b W v n X) (k : Kb b W W') : RowUF b W' v n X:=by
  obtain ⟨pa,cap,h1,h2,h3⟩:=h
  exact ⟨pa,cap,h1,h2.keep k,h3.keep k⟩
theorem RowUF.mono {b c : Nat} {W : World} {v : Value} {n : Nat} {X : Nat → Bool × Int} (h : RowUF b W v n X) (hc : c ≤ b) : RowUF c W v n X:=by
  obtain ⟨pa,cap,h1,h2,h3⟩:=h
  exact ⟨pa,cap,h1,h2.mono hc,h3.mono hc⟩
theorem RowUF.row {b : Nat} {W : World} {v : Value} {n : Nat} {X : Nat → Bool × Int} (h : RowUF b W v n X) : RowU b W v n X:=by
  obtain ⟨pa,cap,h1,h2,h3⟩:=h
  rw [h1];exact h2
def RowWF (b : Nat) (W : World) (v : Value) (n : Nat) (X : Nat → Vv) : Prop:=∃ pa cap,v = .slice pa n cap ∧ RowW b W (.slice pa n cap) n X ∧ FzO b W pa n cap
theorem RowWF.keep {b : Nat} {W W' : World} {v : Value} {n : Nat} {X : Nat → Vv} (h : RowWF b W v n X) (k : Kb b W W') : RowWF b W' v n X:=by
  obtain ⟨pa,cap,h1,h2,h3⟩:=h
  exact ⟨pa,cap,h1,h2.keep k,h3.keep k⟩
theorem RowWF.mono {b c : Nat} {W : World} {v : Value} {n : Nat} {X : Nat → Vv} (h : RowWF b W v n X) (hc : c ≤ b) : RowWF c W v n X:=by
  obtain ⟨pa,cap,h1,h2,h3⟩:=h
  exact ⟨pa,cap,h1,h2.mono hc,h3.mono hc⟩
theorem RowWF.row {b : Nat} {W : World} {v : Value} {n : Nat} {X : Nat → Vv} (h : RowWF b W v n X) : RowW b W v n X:=by
  obtain ⟨pa,cap,h1,h2,h3⟩:=h
  rw [h1];exact h2
def RowIF (b : Nat) (W : World) (v : Value) (n : Nat) (X : Nat → Iv) : Prop:=∃ pa cap,v = .slice pa n cap ∧ RowI b W (.slice pa n cap) n X ∧ FzO b W pa n cap
theorem RowIF.keep {b : Nat} {W W' : World} {v : Value} {n : Nat} {X : Nat → Iv} (h : RowIF b W v n X) (k : Kb b W W') : RowIF b W' v n X:=by
  obtain ⟨pa,cap,h1,h2,h3⟩:=h
  exact ⟨pa,cap,h1,h2.keep k,h3.keep k⟩
theorem RowIF.mono {b c : Nat} {W : World} {v : Value} {n : Nat} {X : Nat → Iv} (h : RowIF b W v n X) (hc : c ≤ b) : RowIF c W v n X:=by
  obtain ⟨pa,cap,h1,h2,h3⟩:=h
  exact ⟨pa,cap,h1,h2.mono hc,h3.mono hc⟩
theorem RowIF.row {b : Nat} {W : World} {v : Value} {n : Nat} {X : Nat → Iv} (h : RowIF b W v n X) : RowI b W v n X:=by
  obtain ⟨pa,cap,h1,h2,h3⟩:=h
  rw [h1];exact h2
def RowMF (b : Nat) (W : World) (v : Value) (n : Nat) (X : Nat → Mv) : Prop:=∃ pa cap,v = .slice pa n cap ∧ RowM b W (.slice pa n cap) n X ∧ FzO b W pa n cap
theorem RowMF.keep {b : Nat} {W W' : World} {v : Value} {n : Nat} {X : Nat → Mv} (h : RowMF b W v n X) (k : Kb b W W') : RowMF b W' v n X:=by
  obtain ⟨pa,cap,h1,h2,h3⟩:=h
  exact ⟨pa,cap,h1,h2.keep k,h3.keep k⟩
theorem RowMF.mono {b c : Nat} {W : World} {v : Value} {n : Nat} {X : Nat → Mv} (h : RowMF b W v n X) (hc : c ≤ b) : RowMF c W v n X:=by
  obtain ⟨pa,cap,h1,h2,h3⟩:=h
  exact ⟨pa,cap,h1,h2.mono hc,h3.mono hc⟩
theorem RowMF.row {b : Nat} {W : World} {v : Value} {n : Nat} {X : Nat → Mv} (h : RowMF b W v n X) : RowM b W v n X:=by
  obtain ⟨pa,cap,h1,h2,h3⟩:=h
  rw [h1];exact h2
def RowPF (b : Nat) (W : World) (v : Value) (n : Nat) (F : Nat → Pd) : Prop:=∃ g,v = .slice (some ⟨g,0,none⟩) n n ∧ b ≤ g ∧ g < W.heap.size ∧ (∀ j,W.frozen? ⟨g,j,none⟩ = false) ∧ ∀ i,i < n → ∃ vu vc vn vd,CelP W ⟨g,i * 9,none⟩ (F i) vu vc vn vd ∧ RowUF (g + 1) W vu (F i).u (F i).U ∧ RowWF (g + 1) W vc (F i).c (F i).C ∧ RowIF (g + 1) W vn (F i).n (F i).N ∧ RowMF (g + 1) W vd (F i).d (F i).D
theorem RowPF.keep {b : Nat} {W W' : World} {v : Value} {n : Nat} {F : Nat → Pd} (h : RowPF b W v n F) (k : Kb b W W') : RowPF b W' v n F:=by
  obtain ⟨g,h1,h2,h3,h4,h5⟩:=h
  refine ⟨g,h1,h2,Nat.lt_of_lt_of_le h3 k.size,fun j=>(k.frozen h2 h3).trans (h4 j),fun i hi=>?_⟩
  obtain ⟨vu,vc,vn,vd,c,r1,r2,r3,r4⟩:=h5 i hi
  exact ⟨vu,vc,vn,vd,c.keep h2 k,r1.keep (k.mono (by omega)),r2.keep (k.mono (by omega)),r3.keep (k.mono (by omega)),r4.keep (k.mono (by omega))⟩
theorem RowPF.row {b : Nat} {W : World} {v : Value} {n : Nat} {F : Nat → Pd} (h : RowPF b W v n F) : RowP b W v n F:=by
  obtain ⟨g,h1,h2,h3,h4,h5⟩:=h
  refine ⟨_,_,h1,fun _=>⟨_,rfl,Nat.le_refl _,h2,fun i hi=>?_⟩⟩
  obtain ⟨vu,vc,vn,vd,c,r1,r2,r3,r4⟩:=h5 i hi
  rw [addr0]
  exact ⟨vu,vc,vn,vd,c,r1.row.mono (by omega),r2.row.mono (by omega),r3.row.mono (by omega),r4.row.mono (by omega)⟩
end Go.Proofs.YtnmeemjoodoalaaGreatDoor.Fo
