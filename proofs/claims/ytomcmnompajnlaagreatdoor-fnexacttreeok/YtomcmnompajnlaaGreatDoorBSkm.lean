import Derived.Test.YtomcmnompajnlaaGreatDoorBBab
namespace Go.Proofs.YtomcmnompajnlaaGreatDoor.Fo
open Go.ChangeShapes Go.WideShapes Go.ChangeAt Go.RowKit
set_option linter.unusedVariables false
def bk (sz:Nat→Int) (K:Nat→Int):Nat→Int→Option Int
  | 0,at'=>some at'
  | j+1,at'=>if K j=at' - 1∧sz (K j).toNat ≠ 0 then bk sz K j (at' - sz (K j).toNat) else none
def szl (F:Nat→Gv):Nat→Nat→Int
  | 0,_=>0
  | i+1,k=>if k=i then (match bk (szl F i) (F i).K (F i).q (i:Int) with | some at'=>(i:Int) - at'+1 | none=>0) else szl F i k
theorem szl_stay (F:Nat→Gv) {k i:Nat} (h:k < i):∀ n,i≤n→szl F n k=szl F i k:=by
  intro n
  induction n with
  | zero=>intro h2;omega
  | succ n ih =>
    intro h2
    by_cases e:i=n+1
    · rw [e]
    · rw [← ih (by omega)]
      show (if k=n then _ else szl F n k) = _
      rw [if_neg (by omega)]
def Kn (F:Nat→Gv) (n:Nat):Prop:=∀ i,i < n→∀ j,j < (F i).q→0≤(F i).K j∧(F i).K j < (i:Int)
theorem bk_in {sz:Nat→Int} {K:Nat→Int} {i:Nat} (hs:∀ k,0≤sz k∧sz k≤(k:Int)+1):∀ (q:Nat) (at' r:Int),(∀ j,j < q→0≤K j∧K j < (i:Int))→0≤at'→at'≤(i:Int)→bk sz K q at'=some r→0≤r∧r≤(i:Int):=by
  intro q
  induction q with
  | zero=>intro at' r _ h0 h1 h;cases h;exact ⟨h0,h1⟩
  | succ q ih =>
    intro at' r hk h0 h1 h
    unfold bk at h
    split at h
    · rename_i hc
      have hkq:=hk q (by omega)
      have:=hs (K q).toNat
      exact ih _ _ (fun j hj=>hk j (by omega)) (by omega) (by omega) h
    · cases h
theorem szl_in {F:Nat→Gv} {n:Nat} (h:Kn F n):∀ i,i≤n→∀ k,0≤szl F i k∧szl F i k≤(k:Int)+1:=by
  intro i
  induction i with
  | zero=>intro _ k;show 0≤(0:Int)∧(0:Int)≤_;omega
  | succ i ih =>
    intro hi k
    show 0≤(if k=i then _ else szl F i k)∧(if k=i then _ else szl F i k)≤_
    by_cases e:k=i
    · rw [if_pos e]
      cases hb:bk (szl F i) (F i).K (F i).q (i:Int) with
      | none=>simp only;omega
      | some r =>
        have:=bk_in (ih (by omega)) (F i).q (i:Int) r (h i (by omega)) (by omega) (by omega) hb
        simp only
        omega
    · rw [if_neg e];exact ih (by omega) k
theorem MkR.skip {w W w6:World} {g n i:Nat} {A M:Nat→Value} (h:MkR w g n A M i W) (hi:i < n) (hb:Below W.heap.size W w6) (he:A i=M i):MkR w g n A M (i+1) w6:=by
  have hg:g < W.heap.size:=lt_of_cell (h.rest i (Nat.le_refl _) hi)
  have e6:∀ j,w6.cell? ⟨g,j,none⟩=W.cell? ⟨g,j,none⟩:=fun j=>World.cell?_of_block (hb.block g hg)
  refine ⟨h.kq.trans (Kq.of_below hb (Nat.le_refl _)),fun j hj=>?_,fun j h1 h2=>?_,fun j=>by rw [World.frozen?_of_block (hb.block g hg)];exact h.fz j⟩
  · rw [e6]
    by_cases e:j=i
    · rw [e,← he];exact h.rest i (Nat.le_refl _) hi
    · exact h.don j (by omega)
  · rw [e6];exact h.rest j (by omega) h2
def upd (D:Nat→Int) (K:Nat→Int) (x:Int):Nat→Nat→Int
  | 0,k=>D k
  | j+1,k=>if (k:Int)=K j then x else upd D K x j k
def dpr (F:Nat→Gv) (n:Nat):Nat→Nat→Int
  | 0,_=>0
  | r+1,k=>upd (dpr F n r) (F (n - 1 - r)).K (dpr F n r (n - 1 - r)+1) (F (n - 1 - r)).q k
theorem upd_in {D:Nat→Int} {K:Nat→Int} {x m:Int} (hD:∀ k,0≤D k∧D k≤m) (hx : 0≤x∧x≤m):∀ j k,0≤upd D K x j k∧upd D K x j k≤m:=by
  intro j
  induction j with
  | zero=>exact hD
  | succ j ih =>
    intro k
    show 0≤(if (k:Int)=K j then x else upd D K x j k)∧_
    split
    · rename_i h
      show _∧(if (k:Int)=K j then x else upd D K x j k)≤m
      rw [if_pos h];exact hx
    · rename_i h
      show _∧(if (k:Int)=K j then x else upd D K x j k)≤m
      rw [if_neg h];exact ih k
theorem upd_far {D:Nat→Int} {K:Nat→Int} {x:Int} {i:Nat}:∀ j,(∀ j',j' < j→K j' < (i:Int))→upd D K x j i=D i:=by
  intro j
  induction j with
  | zero=>intro _;rfl
  | succ j ih =>
    intro h
    show (if (i:Int)=K j then x else upd D K x j i)=D i
    rw [if_neg (by have:=h j (by omega);omega)]
    exact ih (fun j' hj'=>h j' (by omega))
structure Rs (W:World) (h:Nat) (v:Value):Prop where
  ct:W.cell? ⟨h,0,none⟩=some v
  r0:W.cell? ⟨h+1,0,none⟩=some (.int .i64 0)
  r1:W.cell? ⟨h+1,1,none⟩=some (.int .i64 0)
  z0:W.frozen? ⟨h+1,0,none⟩=false
  z1:W.frozen? ⟨h+1,1,none⟩=false
theorem Rs.below {W W':World} {h:Nat} {v:Value} (s:Rs W h v) (hb:Below W.heap.size W W'):Rs W' h v:=by
  have l0:=lt_of_cell s.ct
  have l1:=lt_of_cell s.r0
  exact ⟨(hb.cell (p:=⟨h,0,none⟩) l0).trans s.ct,(hb.cell (p:=⟨h+1,0,none⟩) l1).trans s.r0,(hb.cell (p:=⟨h+1,1,none⟩) l1).trans s.r1,(hb.frozen (p:=⟨h+1,0,none⟩) l1).trans s.z0,(hb.frozen (p:=⟨h+1,1,none⟩) l1).trans s.z1⟩
theorem Rs.kq {W W':World} {h g:Nat} {v:Value} (s:Rs W h v) (hb:Kq (fun k=>k=g) W W') (hg:h+1 < g):Rs W' h v:=by
  have l0:=lt_of_cell s.ct
  have l1:=lt_of_cell s.r0
  have b0:=hb.block h l0 (by omega)
  have b1:=hb.block (h+1) l1 (by omega)
  exact ⟨(World.cell?_of_block b0).trans s.ct,(World.cell?_of_block b1).trans s.r0,(World.cell?_of_block b1).trans s.r1,(World.frozen?_of_block b1).trans s.z0,(World.frozen?_of_block b1).trans s.z1⟩
theorem Rs.new (w:World) (v:Value) (t1 t2:TypeId):Rs ((w.alloc (.cells #[v] t1)).alloc (.cells #[.int .i64 0,.int .i64 0] t2)) w.heap.size v:=by
  refine ⟨?_,?_,?_,?_,?_⟩
  · rw [World.cell?_alloc_past _ _ _ (by simp),World.cell?_alloc_at _ _ _ _ rfl];rfl
  · rw [World.cell?_alloc_at _ _ _ _ (by simp)];rfl
  · rw [World.cell?_alloc_at _ _ _ _ (by simp)];rfl
  · rw [World.frozen?_alloc_at _ _ _ _ (by simp)]
  · rw [World.frozen?_alloc_at _ _ _ _ (by simp)]
theorem Rs.ret {w W : World} {v : Value} (s : Rs W w.heap.size v) (hb : Below w.heap.size w W) (c f : Int) :
    ((W.setCell ⟨w.heap.size+1,0,none⟩ (.int .i64 c)).setCell ⟨w.heap.size+1,1,none⟩ (.int .i64 f)).cell? ⟨w.heap.size+1,0,none⟩=some (.int .i64 c)∧((W.setCell ⟨w.heap.size+1,0,none⟩ (.int .i64 c)).setCell ⟨w.heap.size+1,1,none⟩ (.int .i64 f)).cell? ⟨w.heap.size+1,1,none⟩=some (.int .i64 f)∧Below w.heap.size w ((W.setCell ⟨w.heap.size+1,0,none⟩ (.int .i64 c)).setCell ⟨w.heap.size+1,1,none⟩ (.int .i64 f)):=by
  refine ⟨?_,?_,(hb.setCell (by show w.heap.size≤w.heap.size+1;omega) _).setCell (by show w.heap.size≤w.heap.size+1;omega) _⟩
  · rw [set_ne _ _ _ _ _ (by omega)];exact set_eq _ _ _ _ _ s.r0
  · exact set_eq _ _ _ _ _ (by rw [set_ne _ _ _ _ _ (by omega)];exact s.r1)
structure Dv (w1:World) (g n:Nat) (D:Nat→Int) (W:World):Prop where
  kq:Kq (fun k=>k=g) w1 W
  cell:∀ k,k < n→W.cell? ⟨g,k,none⟩=some (.int .i64 (D k))
  fz:∀ k,W.frozen? ⟨g,k,none⟩=false
theorem Dv.set {w1 W:World} {g n:Nat} {D:Nat→Int} (h:Dv w1 g n D W) (m:Nat) (hm:m < n) (x:Int) (D':Nat→Int) (hD:∀ k,k < n→D' k=if k=m then x else D k):Dv w1 g n D' (W.setCell ⟨g,m,none⟩ (.int .i64 x)):=by
  refine ⟨h.kq.setCell _ rfl _,fun k hk=>?_,fun k=>by rw [set_fz];exact h.fz k⟩
  rw [hD k hk]
  by_cases e:k=m
  · subst e;rw [if_pos rfl];exact set_eq _ _ _ _ _ (h.cell k hk)
  · rw [if_neg e,set_ne _ _ _ _ _ e];exact h.cell k hk
theorem Dv.low {w w4 W:World} {g n:Nat} {D:Nat→Int} (h:Dv w4 g n D W) (hb:Below w.heap.size w w4) (hg:w.heap.size≤g):Below w.heap.size w W :=
  ⟨h.kq.os.trans hb.os,h.kq.tape.trans hb.tape,h.kq.output.trans hb.output,Nat.le_trans hb.size h.kq.size,fun b hl=>(h.kq.block b (Nat.lt_of_lt_of_le hl hb.size) (by omega)).trans (hb.block b hl)⟩
end Go.Proofs.YtomcmnompajnlaaGreatDoor.Fo
