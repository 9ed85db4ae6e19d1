import Derived.Test.YtjakooihcbdcaaaDoorMCda
import Derived.Test.YtjakooihcbdcaaaDoorMCfc
import Derived.Test.YtjakooihcbdcaaaDoorMCdb
import Derived.Test.YtjakooihcbdcaaaDoorMCbb
import Derived.Test.YtjakooihcbdcaaaDoorMCjb
import Derived.Deep.RegionHeldLaw
import Derived.Test.YtjakooihcbdcaaaDoorMZaa
import Derived.Laws.IdiomStrings
import Derived.Laws.OwnMore
import Derived.Lib.UnsafeStr
import Derived.Lib.AppendStr
import Derived.Deep.AppendLies
import Derived.OwnWalk
import Derived.Handy
set_option maxHeartbeats 16000000
namespace Go.Proofs.YtjakooihcbdcaaaDoor.Fo
open Go.ChangeShapes Go.WideShapes Go.ChangeAt Go.RowKit
set_option linter.unusedVariables false
set_option maxRecDepth 100000
theorem sz_emp {x : ByteArray} : x = ⟨#[]⟩ ↔ x.size = 0:=by
  constructor
  · rintro rfl;rfl
  · intro h
    apply ByteArray.ext
    exact Array.eq_empty_of_size_eq_zero h
theorem sp_nam {d : Pd} {b : Addr} {i : Nat} {pu pc pn : Option Addr} {cu cc cn cm : Nat} (w : World) (hi : i < d.d) (hd : d.d ≤ 1048576) (hn : d.n ≤ 1048576) (hcel : CelM w (b.add (i * 4)) (d.D i)) (hg : 0 ≤ d.g ∧ d.g ≤ 250) :
    Calls Tryd.prog 41 #[.agg #[.string d.x,.int .i64 d.l,.int .i64 d.m,.bool d.r,.int .i64 d.g,.slice pu d.u cu,.slice pc d.c cc,.slice pn d.n cn,.slice (some b) d.d cm],.int .i64 (i : Int)] w fun e w'=>e = .returned (.bool (dc (Nok d i))) ∧ Kb 0 w w':=by
  obtain ⟨d0,d1,d2,d3⟩:=hcel.keep (Nat.zero_le _) (kb_alloc 0 w (.cells #[.string d.x,.int .i64 d.l,.int .i64 d.m,.bool d.r,.int .i64 d.g,.slice pu d.u cu,.slice pc d.c cc,.slice pn d.n cn,.slice (some b) d.d cm] 43))
  unfold Nok
  generalize d.D i = a at *
  obtain ⟨x,g,f,t⟩:=a
  obtain ⟨dx,l,m,r,G,u,U,c,C,n,N,dd,D⟩:=d
  dsimp only at *
  have hiI : (i : Int) < (dd : Int):=by omega
  have hdI : (dd : Int) ≤ 1048576:=by omega
  have hnI : (n : Int) ≤ 1048576:=by omega
  clear hi hd hn hcel
  by_cases h0 : i < 500
  rotate_left
  · have g0 : ¬ (i : Int) < 500:=by omega
    rw [dc_f (fun q=>h0 (q.1))]
    go_enter Tryd.func41,Tryd.ntmps41
    go_wp2_with ((go_at_call 43;first | refine (sp_in_t (by omega) _).mono ?_ | refine (sp_in_f (by omega) _).mono ?_);rintro e w1 ⟨rfl,rfl⟩)
    go_ret
    exact ⟨by first | rfl | simp [h5],kb_alloc2 _ _ _ _⟩
  have g0 : (i : Int) < 500:=by omega
  by_cases h1 : 1 ≤ x.size ∧ x.size ≤ 40
  rotate_left
  · have g1 : ¬ ((1 : Int) ≤ (x.size : Int) ∧ (x.size : Int) ≤ 40):=by omega
    rw [dc_f (fun q=>h1 (q.2.1))]
    go_enter Tryd.func41,Tryd.ntmps41
    go_wp2_with ((go_at_call 43;first | refine (sp_in_t (by omega) _).mono ?_ | refine (sp_in_f (by omega) _).mono ?_);rintro e w1 ⟨rfl,rfl⟩)
    go_ret
    exact ⟨by first | rfl | simp [h5],kb_alloc2 _ _ _ _⟩
  have g1 : (1 : Int) ≤ (x.size : Int) ∧ (x.size : Int) ≤ 40:=by omega
  by_cases h2 : 0 ≤ g ∧ g ≤ G - 1
  rotate_left
  · rw [dc_f (fun q=>h2 (q.2.2.1))]
    go_enter Tryd.func41,Tryd.ntmps41
    go_wp2_with ((go_at_call 43;first | refine (sp_in_t (by omega) _).mono ?_ | refine (sp_in_f (by omega) _).mono ?_);rintro e w1 ⟨rfl,rfl⟩)
    go_ret
    exact ⟨by first | rfl | simp [h5],kb_alloc2 _ _ _ _⟩
  skip
  by_cases h3 : 0 ≤ f
  rotate_left
  · rw [dc_f (fun q=>h3 (q.2.2.2.1))]
    go_enter Tryd.func41,Tryd.ntmps41
    go_wp2_with ((go_at_call 43;first | refine (sp_in_t (by omega) _).mono ?_ | refine (sp_in_f (by omega) _).mono ?_);rintro e w1 ⟨rfl,rfl⟩)
    go_ret
    exact ⟨by first | rfl | simp [h5],kb_alloc2 _ _ _ _⟩
  skip
  by_cases h4 : f ≤ t
  rotate_left
  · rw [dc_f (fun q=>h4 (q.2.2.2.2.1))]
    go_enter Tryd.func41,Tryd.ntmps41
    go_wp2_with ((go_at_call 43;first | refine (sp_in_t (by omega) _).mono ?_ | refine (sp_in_f (by omega) _).mono ?_);rintro e w1 ⟨rfl,rfl⟩)
    go_ret
    exact ⟨by first | rfl | simp [h5],kb_alloc2 _ _ _ _⟩
  skip
  by_cases h5 : t ≤ (n : Int)
  rotate_left
  · rw [dc_f (fun q=>h5 (q.2.2.2.2.2))]
    go_enter Tryd.func41,Tryd.ntmps41
    go_wp2_with ((go_at_call 43;first | refine (sp_in_t (by omega) _).mono ?_ | refine (sp_in_f (by omega) _).mono ?_);rintro e w1 ⟨rfl,rfl⟩)
    go_ret
    exact ⟨by first | rfl | simp [h5],kb_alloc2 _ _ _ _⟩
  skip
  rw [dc_t ⟨h0,h1,h2,h3,h4,h5⟩]
  go_enter Tryd.func41,Tryd.ntmps41
  go_wp2_with ((go_at_call 43;first | refine (sp_in_t (by omega) _).mono ?_ | refine (sp_in_f (by omega) _).mono ?_);rintro e w1 ⟨rfl,rfl⟩)
  go_ret
  exact ⟨by first | rfl | simp [h5],kb_alloc2 _ _ _ _⟩
def Lx (P : Nat → Nat → Prop) (L : Nat → Nat) (nf f n : Nat) : Prop:=f < nf ∧ n < L f ∧ ¬ P f n ∧ (∀ i,i < n → P f i) ∧ ∀ g,g < f → ∀ i,i < L g → P g i
def La (P : Nat → Nat → Prop) (L : Nat → Nat) (nf : Nat) : Prop:=∀ f,f < nf → ∀ i,i < L f → P f i
theorem Lx.uniq {P : Nat → Nat → Prop} {L : Nat → Nat} {nf f n g m : Nat} (h : Lx P L nf f n) (k : Lx P L nf g m) : f = g ∧ n = m:=by
  obtain ⟨h1,h2,h3,h4,h5⟩:=h
  obtain ⟨k1,k2,k3,k4,k5⟩:=k
  have hf : f = g:=by
    rcases Nat.lt_trichotomy f g with q | q | q
    · exact absurd (k5 f q n h2) h3
    · exact q
    · exact absurd (h5 g q m k2) k3
  subst hf
  refine ⟨rfl,?_⟩
  rcases Nat.lt_trichotomy n m with q | q | q
  · exact absurd (k4 n q) h3
  · exact q
  · exact absurd (h4 m q) k3
structure Bd (np : Nat) (F : Nat → Pd) : Prop where
  hnp : np ≤ 1048576
  hsm : sm (fun i=>(F i).n) np ≤ 1048576
  hu : ∀ p,p < np → (F p).u ≤ 1048576
  hc : ∀ p,p < np → (F p).c ≤ 1048576
  hn : ∀ p,p < np → (F p).n ≤ 1048576
  hd : ∀ p,p < np → (F p).d ≤ 1048576
  hg : ∀ p,p < np → -9223372036854775808 ≤ (F p).g
  hC : ∀ p,p < np → ∀ i,i < (F p).c → (((F p).C i).x.size : Int) ≤ 1048576 ∧ ((F p).C i).g < 18446744073709551616
def Szu (np : Nat) (F : Nat → Pd) : Prop:=0 < np ∧ np ≤ 200 ∧ sm (fun i=>(F i).n) np ≤ 6000
def MB (F : Nat → Pd) (p i : Nat) (k : Int) : Prop:=∃ q j,(q < p ∨ (q = p ∧ j < i)) ∧ j < (F q).n ∧ ((F q).N j).o = 11 ∧ ((F q).N j).b = k
def P5 (np : Nat) (F : Nat → Pd) (p i : Nat) : Prop:=(F p).n ≠ 0 ∧ Iok np (F p) i
def P6 (F : Nat → Pd) (p i : Nat) : Prop:=((F p).N i).o = 11 → (p : Int) < ((F p).N i).b ∧ ¬ MB F p i ((F p).N i).b ∧ Uok (F p) (F ((F p).N i).b.toNat)
def P7 (np : Nat) (F : Nat → Pd) (p : Nat) : Prop:=p = 0 ∨ MB F np 0 (p : Int)
def L5 (F : Nat → Pd) (p : Nat) : Nat:=if (F p).n = 0 then 1 else (F p).n
def PQ (F : Nat → Pd) (np : Nat) (c p i : Nat) : Prop :=
  match c with
  | 2=>Hd p (F p)
  | 3=>Cok ((F p).C i)
  | 4=>Nok (F p) i
  | 5=>P5 np F p i
  | 6=>P6 F p i
  | _=>P7 np F p
def LQ (F : Nat → Pd) (c p : Nat) : Nat :=
  match c with
  | 2=>1
  | 3=>(F p).c
  | 4=>(F p).d
  | 5=>L5 F p
  | 6=>(F p).n
  | _=>1
def Ans (m np : Nat) (F : Nat → Pd) (c f n : Nat) : Prop :=
  (c = 1 ∧ f = 0 ∧ n = 0 ∧ ¬ Szu np F) ∨ (Szu np F ∧ 2 ≤ c ∧ c ≤ m ∧ Lx (PQ F np c) (LQ F c) np f n ∧ ∀ c',2 ≤ c' → c' < c → La (PQ F np c') (LQ F c') np) ∨ (Szu np F ∧ c = 0 ∧ f = 0 ∧ n = 0 ∧ ∀ c',2 ≤ c' → c' ≤ m → La (PQ F np c') (LQ F c') np)
theorem lx_la {P : Nat → Nat → Prop} {L : Nat → Nat} {nf f n : Nat} (h : Lx P L nf f n) (k : La P L nf) : False:=h.2.2.1 (k f h.1 n h.2.1)
theorem Ans.uniq {m np : Nat} {F : Nat → Pd} {c f n c' f' n' : Nat} (h : Ans m np F c f n) (k : Ans m np F c' f' n') : c = c' ∧ f = f' ∧ n = n':=by
  rcases h with ⟨h1,h2,h3,h4⟩ | ⟨h1,h2,h3,h4,h5⟩ | ⟨h1,h2,h3,h4,h5⟩ <;> rcases k with ⟨k1,k2,k3,k4⟩ | ⟨k1,k2,k3,k4,k5⟩ | ⟨k1,k2,k3,k4,k5⟩
  · exact ⟨by omega,by omega,by omega⟩
  · exact absurd k1 h4
  · exact absurd k1 h4
  · exact absurd h1 k4
  · have e : c = c' := by
      rcases Nat.lt_trichotomy c c' with q | q | q
      · exact (lx_la h4 (k5 c h2 q)).elim
      · exact q
      · exact (lx_la k4 (h5 c' k2 q)).elim
    subst e
    exact ⟨rfl,h4.uniq k4⟩
  · exact (lx_la h4 (k5 c h2 h3)).elim
  · exact absurd h1 k4
  · exact (lx_la k4 (h5 c' k2 k3)).elim
  · exact ⟨by omega,by omega,by omega⟩
theorem bd_of {nf : Nat} {F : Nat → Pd} (h : nf + sm (szP F) nf ≤ 1048576) (hF : ∀ i,i < nf → RdP (F i)) : Bd nf F:=by
  have one : ∀ f,f < nf → szP F f ≤ 1048576:=fun f hf=>by have:=sm_one (szP F) hf;omega
  refine ⟨by omega,?_,?_,?_,?_,?_,fun f hf=>(hF f hf).2.2,?_⟩
  · have : sm (fun i => (F i).n) nf ≤ sm (szP F) nf := by
      have : ∀ k,k ≤ nf → sm (fun i=>(F i).n) k ≤ sm (szP F) k:=by
        intro k
        induction k with
        | zero=>intro _;exact Nat.le_refl _
        | succ k ih =>
          intro hk
          have:=ih (by omega)
          show sm (fun i=>(F i).n) k + (F k).n ≤ sm (szP F) k + szP F k
          unfold szP
          unfold szP at this
          omega
      exact this nf (Nat.le_refl _)
    omega
  · intro f hf;have:=one f hf;unfold szP at this;omega
  · intro f hf;have:=one f hf;unfold szP at this;omega
  · intro f hf;have:=one f hf;unfold szP at this;omega
  · intro f hf;have:=one f hf;unfold szP at this;omega
  · intro f hf i hi
    refine ⟨?_,((hF f hf).2.1 i hi).1⟩
    have h1:=one f hf
    have h2:=sm_one (fun j=>((F f).C j).x.size) hi
    unfold szP at h1
    try dsimp only at h2
    omega
theorem bf_of {nf : Nat} {F : Nat → Pd} (hF : ∀ i,i < nf → RdP (F i)) : BP F nf:=fun i hi=>(hF i hi).1
theorem to_code {va : Value} {nf : Nat} {F : Nat → Pd} (w : World) (ha : RowP 0 w va nf F) (hb : Bd nf F) : Calls Tryd.prog 6 #[.agg #[va]] w fun e w'=>∃ v,e = .returned (.agg #[v]) ∧ RowP w.heap.size w' v nf F ∧ Kb 0 w w' :=
  to_code0 w (fun W k=>to_pros W (ha.keep k) hb.hnp (fun i hi=>⟨hb.hu i hi,hb.hc i hi,hb.hn i hi,hb.hd i hi⟩))
theorem eq_code {va vb : Value} {nf : Nat} {F : Nat → Pd} (w : World) (ha : RowP 0 w va nf F) (hv : RowP 0 w vb nf F) (hb : Bd nf F) : Calls Tryd.prog 8 #[.agg #[va],.agg #[vb]] w fun e w'=>e = .returned (.bool true) ∧ Kb 0 w w' :=
  eq_code0 w (fun W k=>eq_pros W (ha.keep k) (hv.keep k) hb.hnp (fun i hi=>⟨hb.hu i hi,hb.hc i hi,hb.hn i hi,hb.hd i hi,fun j hj=>(hb.hC i hi j hj).2⟩))
theorem info5 : (Tryd.prog.info? 5).map (fun i=>(i.zero,i.size,i.bytes)) = some (some (.int .u8 0),1,1):=by kernel_rfl
theorem bc_append (a b : List UInt8) : Lib.byteCells (a ++ b) = Lib.byteCells a ++ Lib.byteCells b:=by simp [Lib.byteCells]
theorem bc_one (l : List UInt8) : ∀ u ∈ Lib.byteCells l,u.oneCell' = true:=by
  intro u hu
  simp only [Lib.byteCells,List.mem_map] at hu
  obtain ⟨a,_,rfl⟩:=hu
  rfl
theorem sc_str (s : ByteArray) : Lib.strCells s = Lib.byteCells s.data.toList:=by simp [Lib.strCells,Lib.byteCells]
theorem qr_cells (w : World) (c : Array Value) (t : TypeId) (l : List Value) (hl : c.toList = l) : ∀ j u,l[j]? = some u → (w.alloc (.cells c t)).cell? ((⟨w.heap.size,0,none⟩ : Addr).add j) = some u:=by
  intro j u hu
  exact World.news_of_block (alloc_new w c t) j u (by rw [hl];exact hu)
def QK (w0 : World) (l : List UInt8) (v : Value) (W : World) : Prop:=W.ownsRow w0.heap.size 5 1 v l.length (Lib.byteCells l) ∧ Kb 0 w0 W
theorem QK.call {w W W' : World} {l : List UInt8} {v : Value} (h : QK w l v W) (hb : Kb 0 W W') : QK w l v W':=by
  refine ⟨⟨h.1.1,?_⟩,h.2.trans hb⟩
  rcases h.1.2 with h1 | ⟨g,cap,cur,h1,h2,h3,h4⟩
  · exact .inl h1
  · refine .inr ⟨g,cap,cur,h1,h2,?_,h4⟩
    rw [hb.block g (Nat.zero_le _) (h.1.lt g (by rw [h1];rfl)).2]
    exact h3
theorem QK.add {w W w1 : World} {l m : List UInt8} {v v' : Value} {k : Nat} (h : QK w l v W) (hk : k = m.length) (ho : w1.ownsRow w.heap.size 5 1 v' (l.length + k) (Lib.byteCells l ++ Lib.byteCells m)) (hg : W.grownBy w1 v.ownBlock) : QK w (l ++ m) v' w1:=by
  subst hk
  refine ⟨by rw [List.length_append,bc_append];exact ho,⟨hg.os.trans h.2.os,hg.output.trans h.2.output,Nat.le_trans h.2.size hg.size,fun i _ hi=>?_⟩⟩
  rw [hg.block i (Nat.lt_of_lt_of_le hi h.2.size) (fun e2=>by have:=(h.1.lt i e2.symm).1;omega)]
  exact h.2.block i (Nat.zero_le _) hi
theorem qk_nil (w : World) : QK w [] (.slice none 0 0) w:=⟨World.ownsRow_nil _ _ _ _,Kb.refl _ _⟩
theorem QK.slice {w W : World} {l : List UInt8} {v : Value} (h : QK w l v W) : ∃ p c,v = .slice p l.length c:=by
  rcases h.1.2 with ⟨h1,h2⟩ | ⟨g,cap,cur,h1,_⟩
  · exact ⟨none,0,by rw [h2];exact h1⟩
  · exact ⟨_,cap,h1⟩
theorem conv_row {w wr : World} {l : List UInt8} {v : Value} (hl : l ≠ []) (h : QK w l v wr) : (convert 37 9 v).run Tryd.prog wr = .ok (.string ⟨l.toArray⟩) wr:=by
  obtain ⟨h1,h2⟩:=h
  obtain ⟨g,cap,rfl,_,_⟩:=World.ownsRow.form h1 (by cases l with | nil=>exact (hl rfl).elim | cons a b=>simp)
  refine run_convert_bytes_back wr 37 9 5 _ cap l Tryd.underlying37 Tryd.underlying5 Tryd.underlying9 (fun j hj=>?_)
  have:=h1.cells (g:=g) rfl j (.int .u8 (l[j].toNat : Int)) (by simp [Lib.byteCells,hj])
  exact this
theorem sz_len (x : ByteArray) : x.data.toList.length = x.size:=by
  show x.data.toList.length = x.data.size
  simp
end Go.Proofs.YtjakooihcbdcaaaDoor.Fo
