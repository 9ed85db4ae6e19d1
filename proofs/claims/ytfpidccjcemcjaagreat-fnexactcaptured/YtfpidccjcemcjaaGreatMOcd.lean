import Derived.Test.YtfpidccjcemcjaaGreatMZsq
import Derived.Test.YtfpidccjcemcjaaGreatMOcb
import Derived.Test.YtfpidccjcemcjaaGreatMObd
import Derived.Test.YtfpidccjcemcjaaGreatMNpc
import Derived.Test.YtfpidccjcemcjaaGreatMNpf
import Derived.Deep.AppendLies
import Derived.Deep.RegionHeldLaw
set_option maxHeartbeats 16000000
namespace Go.Proofs.YtfpidccjcemcjaaGreat.Fo
open Go.ChangeShapes Go.WideShapes Go.ChangeAt Go.RowKit
set_option linter.unusedVariables false
set_option maxRecDepth 100000
open Classical in
noncomputable def cN (nf:Nat) (F:Nat→Fd) (fn:Int):Nat:=if Ans nf F 0 0 0∧0≤fn∧fn < (nf:Int) then (F fn.toNat).p else 0
def cD (F:Nat→Fd) (fn:Int):Int→Prop:=CapS F fn.toNat (F fn.toNat).n
theorem cN_t {nf:Nat} {F:Nat→Fd} {f:Nat} (h:Ans nf F 0 0 0) (hf:f < nf):cN nf F (f:Int)=(F f).p:=by
 unfold cN
 rw [if_pos ⟨h,by omega,by omega⟩,Int.toNat_natCast]
theorem cN_f {nf:Nat} {F:Nat→Fd} {fn:Int} (h:¬ (Ans nf F 0 0 0∧0≤fn∧fn < (nf:Int))):cN nf F fn=0:=by
 unfold cN
 rw [if_neg h]
def Cpa (nf:Nat) (F:Nat→Fd) (fn:Int) (w:World) (v:Value) (w':World):Prop:=∃ G,OwnR w' v G (cN nf F fn) (fun i=>.bool (dc (cD F fn (i:Int))))∧(0 < cN nf F fn→w.heap.size≤G∧G < w'.heap.size)∧Kb 0 w w'
theorem cpa_nil {nf:Nat} {F:Nat→Fd} {fn:Int} (h:¬ (Ans nf F 0 0 0∧0≤fn∧fn < (nf:Int))) {w w':World} (k:Kb 0 w w'):Cpa nf F fn w (.slice none 0 0) w':=by
 unfold Cpa
 rw [cN_f h]
 exact ⟨0,⟨⟨none,0,rfl,fun q=>by omega⟩,fun i hi=>by omega,fun q=>by omega⟩,fun q=>by omega,k⟩
theorem cpa_of {nf:Nat} {F:Nat→Fd} {f:Nat} (h:Ans nf F 0 0 0) (hf:f < nf) {w a w':World} {G:Nat} (k:Kb 0 w a) (g:Fg a G (F f).p (CapS F f (F f).n) w'):Cpa nf F (f:Int) w (.slice (some ⟨G,0,none⟩) (F f).p (F f).p) w':=by
 unfold Cpa cD
 rw [cN_t h hf,Int.toNat_natCast]
 exact ⟨G,⟨⟨_,_,rfl,fun _=>⟨rfl,Nat.le_refl _⟩⟩,fun i hi=>g.sn.1 i hi,fun _ j=>g.sn.2 j⟩,fun _=>⟨Nat.le_trans k.size g.lo,g.hi⟩,k.trans g.kb⟩
theorem ans0 {nf:Nat} {F:Nat→Fd} {f n:Nat} (h:Ans nf F 0 f n):f=0∧n=0:=by
 rcases h with ⟨h,_⟩ | ⟨_,h,_⟩ | ⟨_,_,h1,h2,_⟩
 ·omega
 ·omega
 ·exact ⟨h1,h2⟩
theorem ans_ne {nf:Nat} {F:Nat→Fd} {c f n:Nat} (h:Ans nf F c f n) (hc:c ≠ 0):¬ Ans nf F 0 0 0:=fun q=>hc (h.uniq q).1
theorem sp_captured {va : Value} {nf : Nat} {F : Nat → Fd} (w : World) (fn : Int) (hcu : ∀ W v, RowF 0 W v nf F → Bd nf F → Calls Tryz.prog 14 #[.agg #[v]] W fun e w' => ∃ c f n : Nat, e = .returned (.agg #[.int .i64 (c : Int), .int .i64 (f : Int), .int .i64 (n : Int)]) ∧ Ans nf F c f n ∧ Kb 0 W w') (ha : RowF 0 w va nf F) (hb : Bd nf F) :
  Calls Tryz.prog 5 #[.agg #[va],.int .i64 fn] w fun e w'=>∃ v,e = .returned v∧Cpa nf F fn w v w':=by
 have ha0:=ha
 obtain ⟨pa,ca,rfl,ha2⟩:=ha
 have hnfI:(nf:Int)≤1048576:=by have:=hb.hnf;omega
 obtain ⟨w2,hw2⟩:∃ w2,w2=w.alloc (.cells #[.slice pa nf ca] 30):=⟨_,rfl⟩
 have k2:Kb 0 w w2:=by rw [hw2];exact kb_alloc _ _ _
 have b0:w2.heap[w.heap.size]? = some (.cells #[.slice pa nf ca] 30 (0,0)):=by rw [hw2];exact alloc_new _ _ _
 have HC:Hid (Calls Tryz.prog 14 #[.agg #[.slice pa nf ca]] w2 fun e w'=>(e = .returned (.agg #[.int .i64 0,.int .i64 0,.int .i64 0])∧Ans nf F 0 0 0∧Kb 0 w2 w')∨∃ c f n:Nat,e = .returned (.agg #[.int .i64 (c:Int),.int .i64 (f:Int),.int .i64 (n:Int)])∧c ≠ 0∧¬ Ans nf F 0 0 0∧Kb 0 w2 w'):=by
  refine (hcu w2 _ (ha0.keep k2) hb).mono ?_
  rintro e w' ⟨c,f,n,rfl,h,k⟩
  by_cases hc:c=0
  ·subst hc
   obtain ⟨rfl,rfl⟩:=ans0 h
   exact .inl ⟨rfl,h,k⟩
  ·exact .inr ⟨c,f,n,rfl,hc,ans_ne h hc,k⟩
 have HW2:Hid (w2=w.alloc (.cells #[.slice pa nf ca] 30)):=hw2
 have HB:Hid (Kb 0 w w2∧w2.heap[w.heap.size]? = some (.cells #[.slice pa nf ca] 30 (0,0))∧(0 < nf→∃ a:Addr,pa=some a∧nf≤ca∧0≤a.block∧∀ i,i < nf→FnC 0 w (a.add (i*7)) (F i))∧Bd nf F):=(⟨k2,b0,ha2,hb⟩:_∧_)
 clear hw2 k2 b0 ha2 hb ha0 hcu
 go_enter Tryz.func5,Tryz.ntmps5
 go_wp2_with fail
 rw [← (uh HW2)]
 clear HW2
 refine (uh HC).mono ?_
 obtain ⟨k2,b0,ha2,hb⟩:=(uh HB)
 rintro e w3 (⟨rfl,hans,k3⟩ | ⟨c,f',n',rfl,hc,hans,k3⟩)
 case inr =>
  have HE:Hid (∀ o,Cpa nf F fn w (.slice none 0 0) (w3.alloc o)):=(fun o=>cpa_nil (fun q=>hans q.1) ((k2.trans k3).trans (kb_alloc _ _ _)):∀ o,_)
  have g0:(((c:Int)) != 0)=true:=by simp;omega
  have g1:(((c:Int)) == 0)=false:=bne (by omega)
  clear HC HB k2 b0 ha2 hb hans k3 hc
  go_wp2_with fail
  go_ret
  exact ⟨_,rfl,(uh HE) _⟩
 have u0:∀ o,(w3.alloc o).cell? ⟨w.heap.size,0,none⟩=some (.slice pa nf ca):=fun o=>(k3.trans (kb_alloc 0 w3 o)).cell (cell_of b0 rfl)
 by_cases h0:fn < 0
 ·have HE:Hid (∀ o,Cpa nf F fn w (.slice none 0 0) (w3.alloc o)):=(fun o=>cpa_nil (fun q=>by omega) ((k2.trans k3).trans (kb_alloc _ _ _)):∀ o,_)
  clear HC HB k2 b0 ha2 hb hans k3
  go_wp2_with fail
  go_ret
  exact ⟨_,rfl,(uh HE) _⟩
 by_cases h1:(nf:Int)≤fn
 ·have HE:Hid (∀ o,Cpa nf F fn w (.slice none 0 0) (w3.alloc o)):=(fun o=>cpa_nil (fun q=>by omega) ((k2.trans k3).trans (kb_alloc _ _ _)):∀ o,_)
  clear HC HB k2 b0 ha2 hb hans k3
  go_wp2_with fail
  go_ret
  exact ⟨_,rfl,(uh HE) _⟩
 obtain ⟨f,rfl⟩:∃ f:Nat,fn=(f:Int):=⟨fn.toNat,by omega⟩
 have hf:f < nf:=by omega
 obtain ⟨a,rfl,hca,-,hfn⟩:=ha2 (by omega)
 obtain ⟨w4,hw4⟩:∃ w4,w4=w3.alloc (.cells #[.int .i64 0,.int .i64 0,.int .i64 0] 39):=⟨_,rfl⟩
 have k4:Kb 0 w w4:=by rw [hw4];exact (k2.trans k3).trans (kb_alloc _ _ _)
 have HC4:Hid (Calls Tryz.prog 15 #[.agg #[.slice (some a) nf ca],.int .i64 (f:Int)] w4 fun e w'=>∃ v,e = .returned v∧Cpa nf F (f:Int) w v w'):=by
  refine (sp_capt w4 hf (fun i hi=>(hfn i hi).keep zq k4) hb (vd_of hb hans hf)).mono ?_
  rintro e w' ⟨G,rfl,g⟩
  exact ⟨_,rfl,cpa_of hans hf k4 g⟩
 have HW4:Hid (w4=w3.alloc (.cells #[.int .i64 0,.int .i64 0,.int .i64 0] 39)):=hw4
 have h1':¬ (nf:Int)≤(f:Int):=h1
 clear HC HB k2 b0 ha2 hb hans k3 hfn hw4 k4
 go_wp2_with fail
 rw [← (uh HW4)]
 refine (uh HC4).mono ?_
 rintro e w5 ⟨v,rfl,hv⟩
 have HV:Hid (Cpa nf F (f:Int) w v w5):=hv
 clear hv HC4 HW4 u0
 go_wp2_with fail
 go_ret
 exact ⟨_,rfl,HV⟩
def Hfn (nf:Nat) (F:Nat→Fd) (fn:Int):Prop:=Ans nf F 0 0 0∧0≤fn∧fn < (nf:Int)
def Bif (P:Prop) (e:Ending):Prop:=(e = .returned (.bool true)∧P)∨(e = .returned (.bool false)∧¬ P)
theorem im_valid {va : Value} {nf : Nat} {F : Nat → Fd} (w : World) (hcu : ∀ W v, RowF 0 W v nf F → Bd nf F → Calls Tryz.prog 46 #[.agg #[v]] W fun e w' => ∃ c f n : Nat, e = .returned (.agg #[.int .i64 (c : Int), .int .i64 (f : Int), .int .i64 (n : Int)]) ∧ Ans nf F c f n ∧ Kb 0 W w') (ha : RowF 0 w va nf F) (hb : Bd nf F) :
  Calls Tryz.prog 26 #[.agg #[va]] w fun e w'=>((e = .returned (.bool true)∧Ans nf F 0 0 0)∨(e = .returned (.bool false)∧¬ Ans nf F 0 0 0))∧Kb 0 w w':=by
 have ha0:=ha
 obtain ⟨pa,ca,rfl,ha2⟩:=ha
 obtain ⟨w2,hw2⟩:∃ w2,w2=w.alloc (.cells #[.slice pa nf ca] 30):=⟨_,rfl⟩
 have k2:Kb 0 w w2:=by rw [hw2];exact kb_alloc _ _ _
 have HC:Hid (Calls Tryz.prog 46 #[.agg #[.slice pa nf ca]] w2 fun e w'=>(e = .returned (.agg #[.int .i64 0,.int .i64 0,.int .i64 0])∧Ans nf F 0 0 0∧Kb 0 w w')∨∃ c f n:Nat,e = .returned (.agg #[.int .i64 (c:Int),.int .i64 (f:Int),.int .i64 (n:Int)])∧c ≠ 0∧¬ Ans nf F 0 0 0∧Kb 0 w w'):=by
  refine (hcu w2 _ (ha0.keep k2) hb).mono ?_
  rintro e w' ⟨c,f,n,rfl,h,k⟩
  by_cases hc:c=0
  ·subst hc
   obtain ⟨rfl,rfl⟩:=ans0 h
   exact .inl ⟨rfl,h,k2.trans k⟩
  ·exact .inr ⟨c,f,n,rfl,hc,ans_ne h hc,k2.trans k⟩
 have HW2:Hid (w2=w.alloc (.cells #[.slice pa nf ca] 30)):=hw2
 clear hw2 k2 ha2 hb ha0 hcu
 go_enter Tryz.func26,Tryz.ntmps26
 go_wp2_with fail
 rw [← (uh HW2)]
 clear HW2
 refine (uh HC).mono ?_
 rintro e w3 (⟨rfl,hans,k3⟩ | ⟨c,f',n',rfl,hc,hans,k3⟩)
 ·have HE:Hid (Ans nf F 0 0 0∧Kb 0 w w3):=(⟨hans,k3⟩:_∧_)
  clear HC hans k3
  go_wp2_with fail
  go_ret
  exact ⟨.inl ⟨rfl,HE.1⟩,HE.2⟩
 ·have HE:Hid (¬ Ans nf F 0 0 0∧Kb 0 w w3):=(⟨hans,k3⟩:_∧_)
  have g1:(((c:Int)) == 0)=false:=bne (by omega)
  have g2:¬ ((c:Int))=0:=by omega
  clear HC hans k3 hc
  go_wp2_with fail
  go_ret
  exact ⟨.inr ⟨by first | rfl | simp [*],HE.1⟩,HE.2⟩
theorem im_hasfn {va : Value} {nf : Nat} {F : Nat → Fd} (w : World) (fn : Int) (hcu : ∀ W v, RowF 0 W v nf F → Bd nf F → Calls Tryz.prog 46 #[.agg #[v]] W fun e w' => ∃ c f n : Nat, e = .returned (.agg #[.int .i64 (c : Int), .int .i64 (f : Int), .int .i64 (n : Int)]) ∧ Ans nf F c f n ∧ Kb 0 W w') (ha : RowF 0 w va nf F) (hb : Bd nf F) :
  Calls Tryz.prog 17 #[.agg #[va],.int .i64 fn] w fun e w'=>Bif (Hfn nf F fn) e∧Kb 0 w w':=by
 have ha0:=ha
 obtain ⟨pa,ca,rfl,ha2⟩:=ha
 have hnfI:(nf:Int)≤1048576:=by have:=hb.hnf;omega
 obtain ⟨w2,hw2⟩:∃ w2,w2=w.alloc (.cells #[.slice pa nf ca] 30):=⟨_,rfl⟩
 have k2:Kb 0 w w2:=by rw [hw2];exact kb_alloc _ _ _
 have HC:Hid (Calls Tryz.prog 26 #[.agg #[.slice pa nf ca]] w2 fun e w'=>((e = .returned (.bool true)∧Ans nf F 0 0 0)∨(e = .returned (.bool false)∧¬ Ans nf F 0 0 0))∧Kb 0 w2 w'):=im_valid w2 hcu (ha0.keep k2) hb
 have HW2:Hid (w2=w.alloc (.cells #[.slice pa nf ca] 30)∧Kb 0 w w2):=(⟨hw2,k2⟩:_∧_)
 clear hw2 k2 ha2 hb ha0 hcu
 by_cases h0 : 0≤fn
 case neg =>
  have h0':fn < 0:=by omega
  have HE:Hid (¬ Hfn nf F fn):=(fun q=>h0 q.2.1:¬ _)
  clear HC
  go_enter Tryz.func17,Tryz.ntmps17
  go_wp2_with fail
  go_ret
  exact ⟨.inr ⟨rfl,HE⟩,kb_alloc _ _ _⟩
 by_cases h1:fn < (nf:Int)
 case neg =>
  have HE:Hid (¬ Hfn nf F fn):=(fun q=>h1 q.2.2:¬ _)
  clear HC
  go_enter Tryz.func17,Tryz.ntmps17
  go_wp2_with fail
  go_ret
  exact ⟨.inr ⟨rfl,HE⟩,kb_alloc _ _ _⟩
 go_enter Tryz.func17,Tryz.ntmps17
 go_wp2_with fail
 rw [← (uh HW2).1]
 refine (uh HC).mono ?_
 rintro e w3 ⟨⟨rfl,hans⟩ | ⟨rfl,hans⟩,k3⟩
 ·have HE:Hid (Hfn nf F fn∧Kb 0 w w3):=(⟨⟨hans,h0,h1⟩,(uh HW2).2.trans k3⟩:_∧_)
  clear HC hans k3 HW2
  go_wp2_with fail
  go_ret
  exact ⟨.inl ⟨rfl,HE.1⟩,HE.2⟩
 ·have HE:Hid ((¬ Hfn nf F fn)∧Kb 0 w w3):=(⟨fun q=>hans q.1,(uh HW2).2.trans k3⟩:_∧_)
  clear HC hans k3 HW2
  go_wp2_with fail
  go_ret
  exact ⟨.inr ⟨rfl,HE.1⟩,HE.2⟩
def mdl (N:Nat→Nd):Nat→List Int
 | 0=>[]
 | i+1=>if (N i).a.k=36 then mdl N i ++ [(N i).R 0] else mdl N i
theorem mdl_len (N:Nat→Nd):∀ i,(mdl N i).length≤i
 | 0=>Nat.le_refl _
 | i+1=>by
  have:=mdl_len N i
  unfold mdl
  split
  ·rw [List.length_append,List.length_cons,List.length_nil];omega
  ·omega
theorem mdl_mem {N:Nat→Nd} {x:Int}:∀ {i:Nat},x ∈ mdl N i↔∃ s,s < i∧(N s).a.k=36∧(N s).R 0=x
 | 0=>⟨fun h=>absurd h List.not_mem_nil,fun ⟨_,h,_⟩=>by omega⟩
 | i+1=>by
  unfold mdl
  split
  ·rename_i h
   rw [List.mem_append,mdl_mem,List.mem_singleton]
   constructor
   ·rintro (⟨s,q1,q2,q3⟩ | q)
    ·exact ⟨s,by omega,q2,q3⟩
    ·exact ⟨i,by omega,h,q.symm⟩
   ·rintro ⟨s,q1,q2,q3⟩
    by_cases e:s=i
    ·subst e;exact .inr q3.symm
    ·exact .inl ⟨s,by omega,q2,q3⟩
  ·rename_i h
   rw [mdl_mem]
   constructor
   ·rintro ⟨s,q1,q2,q3⟩
    exact ⟨s,by omega,q2,q3⟩
   ·rintro ⟨s,q1,q2,q3⟩
    by_cases e:s=i
    ·subst e;exact absurd q2 h
    ·exact ⟨s,by omega,q2,q3⟩
structure QI (w:World) (l:List Int) (v:Value) (W:World):Prop where
 bl:Below w.heap.size w W
 row:W.ownsRow w.heap.size 3 1 v l.length (l.map (fun x=>Value.int .i64 x))
theorem QI.shape {w:World} {l:List Int} {v:Value} {W:World} (h:QI w l v W):∃ (ad:Option Addr) (cap:Nat),v = .slice ad l.length cap:=by
 rcases h.row.2 with ⟨h1,e⟩ | ⟨g,cap,cur,rfl,_⟩
 ·exact ⟨none,0,by rw [e];exact h1⟩
 ·exact ⟨_,cap,rfl⟩
theorem QI.step {w:World} {l:List Int} {v v':Value} {W W1 w2:World} {x:Int} (h:QI w l v W) (hb:Below W.heap.size W W1) (ho:w2.ownsRow w.heap.size 3 1 v' (l.length+1) (l.map (fun x=>Value.int .i64 x) ++ [.int .i64 x])) (hg:W1.grownBy w2 v.ownBlock):QI w (l ++ [x]) v' w2:=by
 have h1:=h.bl.trans (hb.mono h.bl.size)
 have hs:=hg.size
 have hz:=h1.size
 have hne:∀ k,k < w.heap.size→some k ≠ v.ownBlock:=fun k hk e2=>by have:=(h.row.lt k e2.symm).1;omega
 refine ⟨⟨hg.os.trans h1.os,hg.tape.trans h1.tape,hg.output.trans h1.output,by omega,fun k hk=>(hg.block k (by omega) (hne k hk)).trans (h1.block k hk)⟩,?_⟩
 rw [List.length_append,List.map_append]
 exact ho
theorem QI.rows {w:World} {l:List Int} {v:Value} {W:World} (h:QI w l v W):RowV W v l.length (fun i=>.int .i64 (l.getD i 0)):=by
 rcases h.row.2 with ⟨h1,e⟩ | ⟨g,cap,cur,h1,hg,hcur,hc1,_,hsz,hx⟩
 ·exact ⟨none,0,by rw [e];exact h1,fun h=>by omega⟩
 ·refine ⟨_,cap,h1,fun _=>⟨_,rfl,hc1,fun i hi=>?_⟩⟩
  have:=h.row.cells (g:=g) (by rw [h1];rfl) i (.int .i64 (l.getD i 0)) (by simp [List.getD,hi])
  exact this
theorem im_made {d : Fd} {vv vu vn : Value} (w : World) (hrow : RowN 0 w vn d.n d.N) (hn : d.n ≤ 1048576) (h1 : ∀ t, t < d.n → (d.N t).a.k = 36 → (d.N t).p = 1) :
  Calls Tryz.prog 27 #[fnv d vv vu vn] w fun e w'=>∃ v,e = .returned v∧QI w (mdl d.N d.n) v w':=by
 obtain ⟨pn,cnn,rfl,hrow2⟩:=hrow
 have hnI:(d.n:Int)≤1048576:=by omega
 have HS:Hid ((0 < d.n→∃ a:Addr,pn=some a∧d.n≤cnn∧0≤a.block∧∀ i,i < d.n→NodeC 0 w (a.add (i*8)) (d.N i))∧∀ t,t < d.n→(d.N t).a.k=36→(d.N t).p=1):=(⟨hrow2,h1⟩:_∧_)
 obtain ⟨i0,hi0,hz0,hz1,hz2⟩:=info_parts infoI
 have HI0:Hid (Tryz.prog.info? 3=some i0):=hi0
 obtain ⟨w1,hw1⟩:∃ w1,w1=w.alloc (.cells #[.string d.x,.int .i64 d.l,.int .i64 d.m,.bool d.r,vv,vu,.slice pn d.n cnn] 48):=⟨_,rfl⟩
 have HQ0:Hid (QI w (mdl d.N 0) (.slice none 0 0) w1):=(⟨by rw [hw1];exact bel1 _ _,World.ownsRow_nil _ _ _ _⟩:QI w [] (.slice none 0 0) w1)
 have HW1:Hid (w1=w.alloc (.cells #[.string d.x,.int .i64 d.l,.int .i64 d.m,.bool d.r,vv,vu,.slice pn d.n cnn] 48)):=hw1
 clear hi0 hrow2 h1 hn hw1
 unfold fnv
 go_enter Tryz.func27,Tryz.ntmps27
 go_wp2_with fail
 rw [← (uh HW1)]
 clear HW1
 go_loopw [3,9] (fun s3 s9 wr=>∃ i:Nat,s9 = .int .i64 (i:Int)∧i≤d.n∧Hid (QI w (mdl d.N i) s3 wr)) (fun _ s9 _=>d.n - (intOf s9).toNat)
 case atStart=>exact ⟨0,rfl,Nat.zero_le _,HQ0⟩
 case round =>
  clear HQ0
  obtain ⟨i,rfl,hin,HG⟩:=hrel
  have hg:=(uh HG)
  obtain ⟨ad,cap,hsh⟩:=hg.shape
  rcases Nat.lt_or_ge i d.n with hi | hi
  case inr =>
   obtain rfl:i=d.n:=by omega
   have hiI:¬ (d.n:Int) < (d.n:Int):=by omega
   clear hg hsh HI0 HS
   go_wp2_with fail
   go_ret
   exact ⟨_,rfl,HG⟩
  have hiI:(i:Int) < (d.n:Int):=by omega
  obtain ⟨hra0,hp1⟩:=(uh HS)
  obtain ⟨AN,rfl,hcn,-,hra⟩:=hra0 (by omega)
  obtain ⟨vr,vk,⟨c0,c1,c2,c3,c4,c5,c6,c7⟩,⟨pr,cr,rfl,hvr⟩,⟨pk,ck,rfl,-⟩⟩:=hra i hi
  have kw:=Kb.of_below hg.bl 0
  replace c0:=kw.cell c0
  replace c1:=kw.cell c1
  replace c2:=kw.cell c2
  replace c3:=kw.cell c3
  replace c4:=kw.cell c4
  replace c5:=kw.cell c5
  replace c6:=kw.cell c6
  replace c7:=kw.cell c7
  have hst:=hst0
  by_cases h36:(d.N i).a.k=36
  case neg =>
   have g36b:((d.N i).a.k == 36)=false:=bne h36
   have hml:mdl d.N (i+1)=mdl d.N i:=by show (if _ then _ else _) = _;rw [if_neg h36]
   have HN:Hid (∀ o,QI w (mdl d.N (i+1)) u3 (wr.alloc o)):=(fun o=>by rw [hml];exact ⟨hg.bl.trans ((bel1 wr o).mono hg.bl.size),hg.row.alloc o⟩:∀ o,_)
   clear hg hsh HI0 HS hra0 hp1 hra hvr kw h36 hml hcn HG
   go_wp2_with fail
   refine ⟨⟨i+1,by go_num,by omega,(uh HN) _⟩,?_⟩
   simp only [intOf]
   omega
  obtain ⟨AR,rfl,hcr,-,hr0⟩:=hvr (by rw [hp1 i hi h36];omega)
  have r0:=hr0 0 (by rw [hp1 i hi h36];omega)
  dsimp only at r0
  obtain ⟨g,hgg⟩:∃ g,g=(d.N i).R 0:=⟨_,rfl⟩
  rw [← hgg] at r0
  rw [hp1 i hi h36] at c6
  rw [h36] at c0
  have ra:∀ o,(wr.alloc o).cell? (AR.add 0)=some (.int .i64 g):=fun o=>(kw.trans (kb_alloc 0 wr o)).cell r0
  have ra':∀ o,(wr.alloc o).cell? AR=some (.int .i64 g):=fun o=>ra o
  have hml:mdl d.N (i+1)=mdl d.N i ++ [g]:=by show (if _ then _ else _) = _;rw [if_pos h36,hgg]
  have hlen:=mdl_len d.N i
  obtain ⟨l,hl⟩:∃ l,l=mdl d.N i:=⟨_,rfl⟩
  rw [← hl] at hg hsh hml hlen
  have HSTP:Hid (∀ (o1 o2:Obj) (v':Value) (w2:World),w2.ownsRow w.heap.size 3 1 v' (l.length+1) (l.map (fun x=>Value.int .i64 x) ++ [.int .i64 g])→((wr.alloc o1).alloc o2).grownBy w2 (Value.slice ad l.length cap).ownBlock→QI w (mdl d.N (i+1)) v' w2):=(fun o1 o2 v' w2 ho hgr=>by
   rw [hml]
   rw [hsh] at hg
   exact hg.step (bel2 _ _ _) ho hgr:∀ (o1 o2:Obj) (v':Value) (w2:World),_)
  have howna:∀ a b:Obj,((wr.alloc a).alloc b).ownsRow w.heap.size 3 1 (.slice ad l.length cap) l.length (l.map (fun x=>Value.int .i64 x)):=fun a b=>by
   have:=(hg.row.alloc a).alloc b
   rw [hsh] at this
   exact this
  have hqc:∀ (o:Obj) (j:Nat) (u:Value),([.int .i64 g]:List Value)[j]? = some u→((wr.alloc o).alloc (.cells #[.int .i64 g] 3)).cell? ((⟨wr.heap.size+1,0,none⟩:Addr).add j)=some u:=fun o=>by
   have:=qr_cells (wr.alloc o) #[.int .i64 g] 3 [.int .i64 g] rfl
   simpa using this
  have h1c:∀ u ∈ ([.int .i64 g]:List Value),u.oneCell'=true:=by intro u hu;simp at hu;subst hu;rfl
  have hbs:w.heap.size≤wr.heap.size:=hg.bl.size
  have hlI:l.length≤1048576:=by omega
  subst hsh
  clear hg HS hra0 hp1 hra hvr kw h36 hml hcn HG hr0 r0 hgg hcr hl hlen
  obtain ⟨L,hL⟩:∃ L,L=l.length:=⟨_,rfl⟩
  obtain ⟨LV,hLV⟩:∃ LV,LV=l.map (fun x=>Value.int .i64 x):=⟨_,rfl⟩
  rw [← hL,← hLV] at howna HSTP
  rw [← hL] at hlI
  rw [← hL]
  clear hL hLV
  have hLI:(L:Int)≤1048576:=by omega
  go_wp2_with (at_builtin;refine wpList_append_own _ rfl (.tmp 16) (.tmp 21) 57 rfl w.heap.size 3 i0 (.int .i64 0) 1 8 Tryz.underlying57 HI0 hz0 hz1 hz2 rfl (by decide) _ _ _ rfl (howna _ _) ⟨wr.heap.size+1,0,none⟩ 1 1 [.int .i64 g] rfl rfl (hqc _) h1c (by unfold maxLen;omega) (by omega) (by simp;omega) ?_;intro v' w2 hown1 hgrow1 _;have HN:Hid (QI w (mdl d.N (i+1)) v' w2):=(uh HSTP) _ _ _ _ hown1 hgrow1;clear HSTP hown1 hgrow1 howna hqc h1c c0 c1 c2 c3 c4 c5 c6 c7)
  refine ⟨⟨i+1,by go_num,by omega,HN⟩,?_⟩
  simp only [intOf]
  omega
def CapL (F:Nat→Fd) (l:List Int) (i:Nat) (y:Int):Prop:=∃ j,j < i∧UpS (F (l.getD j 0).toNat) (F (l.getD j 0).toNat).u y
theorem capl_zero (F:Nat→Fd) (l:List Int) (y:Int):¬ CapL F l 0 y:=fun ⟨_,h,_⟩=>by omega
theorem capl_step {F:Nat→Fd} {l:List Int} {i g:Nat} (hg:l.getD i 0=(g:Int)) (y:Int):CapL F l (i+1) y↔CapL F l i y∨UpS (F g) (F g).u y:=by
 constructor
 ·rintro ⟨j,hj,h⟩
  by_cases e:j=i
  ·subst e;rw [hg] at h;exact .inr h
  ·exact .inl ⟨j,by omega,h⟩
 ·rintro (⟨j,hj,h⟩ | h)
  ·exact ⟨j,by omega,h⟩
  ·refine ⟨i,by omega,?_⟩
   rw [hg]
   exact h
theorem getD_mem {l:List Int} {i:Nat} (h:i < l.length):l.getD i 0 ∈ l:=by
 rw [List.getD,List.getElem?_eq_getElem h]
 exact List.getElem_mem h
theorem capl_all {F:Nat→Fd} {f n:Nat} (y:Int):CapS F f n y↔CapL F (mdl (F f).N n) (mdl (F f).N n).length y:=by
 constructor
 ·rintro ⟨s,hs,h36,hu⟩
  have hm:((F f).N s).R 0 ∈ mdl (F f).N n:=mdl_mem.2 ⟨s,hs,h36,rfl⟩
  obtain ⟨j,hj,e⟩:=List.getElem_of_mem hm
  refine ⟨j,hj,?_⟩
  rw [List.getD,List.getElem?_eq_getElem hj,e]
  exact hu
 ·rintro ⟨j,hj,hu⟩
  obtain ⟨s,q1,q2,q3⟩:=mdl_mem.1 (getD_mem hj)
  refine ⟨s,q1,q2,?_⟩
  rw [q3]
  exact hu
theorem QI.own {w:World} {l:List Int} {v:Value} {W:World} (h:QI w l v W):∃ (ad:Option Addr) (cap:Nat),v = .slice ad l.length cap∧(0 < l.length→∃ g,ad=some ⟨g,0,none⟩∧w.heap.size≤g∧l.length≤cap∧∀ i,i < l.length→W.cell? ⟨g,i,none⟩=some (.int .i64 (l.getD i 0))):=by
 rcases h.row.2 with ⟨h1,e⟩ | ⟨g,cap,cur,h1,hg,hcur,hc1,_,hsz,hx⟩
 ·exact ⟨none,0,by rw [e];exact h1,fun h=>by omega⟩
 ·refine ⟨_,cap,h1,fun _=>⟨g,rfl,hg,hc1,fun i hi=>?_⟩⟩
  have:=h.row.cells (g:=g) (by rw [h1];rfl) i (.int .i64 (l.getD i 0)) (by simp [List.getD,hi])
  rw [addr0] at this
  exact this
theorem im_capt {a : Addr} {ca nf f : Nat} {F : Nat → Fd} {vv vu vn : Value} (w : World) (hf : f < nf) (hfn : ∀ i, i < nf → FnC 0 w (a.add (i * 7)) (F i)) (hvv : RowB 0 w vv (F f).p (fun i => .string ((F f).V i))) (hvu : RowU 0 w vu (F f).u (F f).U) (hvn : RowN 0 w vn (F f).n (F f).N) (hb : Bd nf F) (vd : Vd nf F f) :
  Calls Tryz.prog 18 #[.agg #[.slice (some a) nf ca],fnv (F f) vv vu vn] w fun e w'=>∃ G,e = .returned (.slice (some ⟨G,0,none⟩) (F f).p (F f).p)∧Fg w G (F f).p (CapS F f (F f).n) w':=by
 have hfI:(f:Int) < (nf:Int):=by omega
 have hnfI:(nf:Int)≤1048576:=by have:=hb.hnf;omega
 have hpI:((F f).p:Int)≤1048576:=by have:=hb.hp f hf;omega
 have hvn0:=hvn
 obtain ⟨pv,cv,rfl,-⟩:=hvv
 obtain ⟨pu,cu,rfl,-⟩:=hvu
 obtain ⟨pn,cn,rfl,-⟩:=hvn
 have hmk:∀ W,_:=fun W=>run_make (P:=Tryz.prog) W 26 4 Tryz.t4 (.bool false) Tryz.underlying26 (by kernel_rfl) (by kernel_rfl) .i64 .i64 ((F f).p:Int) ((F f).p:Int) (by omega) (Int.le_refl _) (by show (1:Int)*((F f).p:Int)≤_;omega) (by omega)
 simp only [Int.toNat_natCast] at hmk
 obtain ⟨w2,hw2⟩:∃ w2,w2=(w.alloc (.cells #[.slice (some a) nf ca] 30)).alloc (.cells #[.string (F f).x,.int .i64 (F f).l,.int .i64 (F f).m,.bool (F f).r,.slice pv (F f).p cv,.slice pu (F f).u cu,.slice pn (F f).n cn] 48):=⟨_,rfl⟩
 have k2:Kb 0 w w2:=by rw [hw2];exact kb_alloc2 _ _ _ _
 have z2:w2.heap.size=w.heap.size+1+1:=by rw [hw2];simp
 have b0:w2.heap[w.heap.size]? = some (.cells #[.slice (some a) nf ca] 30 (0,0)):=by
  rw [hw2,(kb_alloc 0 _ _).block _ zq (by rw [World.size_alloc];omega)]
  exact alloc_new _ _ _
 have b1:w2.heap[w.heap.size+1]? = some (.cells #[.string (F f).x,.int .i64 (F f).l,.int .i64 (F f).m,.bool (F f).r,.slice pv (F f).p cv,.slice pu (F f).u cu,.slice pn (F f).n cn] 48 (0,0)):=by
  have e:(w.alloc (.cells #[.slice (some a) nf ca] 30)).heap.size=w.heap.size+1:=World.size_alloc _ _
  rw [hw2,← e]
  exact alloc_new _ _ _
 obtain ⟨w3,hw3⟩:∃ w3,w3=w2.alloc (.cells (madeCells #[.bool false] ((F f).p*Tryz.t4.size)) 4):=⟨_,rfl⟩
 have g3:Fg w2 w2.heap.size (F f).p (CapL F (mdl (F f).N (F f).n) 0) w3:=by rw [hw3];exact fg_made w2 w2 (Kb.refl _ _) (F f).p _ (capl_zero _ _) 4
 have z3:w3.heap.size=w2.heap.size+1:=by rw [hw3];simp
 have k3:Kb 0 w2 w3:=g3.kb
 have HC:Hid (Calls Tryz.prog 27 #[fnv (F f) (.slice pv (F f).p cv) (.slice pu (F f).u cu) (.slice pn (F f).n cn)] w3 fun e w'=>∃ v,e = .returned v∧QI w3 (mdl (F f).N (F f).n) v w'):=im_made w3 (hvn0.keep (k2.trans k3)) (hb.hn f hf) vd.one
 have e0:∀ o,w3.cell? ⟨w.heap.size+1,0,none⟩=some (.string (F f).x)∧w3.cell? ⟨w.heap.size+1,1,none⟩=some (.int .i64 (F f).l)∧w3.cell? ⟨w.heap.size+1,2,none⟩=some (.int .i64 (F f).m)∧w3.cell? ⟨w.heap.size+1,3,none⟩=some (.bool (F f).r)∧w3.cell? ⟨w.heap.size+1,4,none⟩=some (.slice pv (F f).p cv)∧w3.cell? ⟨w.heap.size+1,5,none⟩=some (.slice pu (F f).u cu)∧w3.cell? ⟨w.heap.size+1,6,none⟩=some (.slice pn (F f).n cn):=fun (o:Unit)=>⟨k3.cell (cell_of b1 rfl),k3.cell (cell_of b1 rfl),k3.cell (cell_of b1 rfl),k3.cell (cell_of b1 rfl),k3.cell (cell_of b1 rfl),k3.cell (cell_of b1 rfl),k3.cell (cell_of b1 rfl)⟩
 have HE0:Hid (∀ o:Unit,_):=e0
 have HB:Hid (Kb 0 w w2∧w2.heap[w.heap.size]? = some (.cells #[.slice (some a) nf ca] 30 (0,0))∧(∀ i,i < nf→FnC 0 w (a.add (i*7)) (F i))∧Bd nf F∧Vd nf F f∧f < nf):=(⟨k2,b0,hfn,hb,vd,hf⟩:_∧_)
 have HW3:Hid (w3=((w.alloc (.cells #[.slice (some a) nf ca] 30)).alloc (.cells #[.string (F f).x,.int .i64 (F f).l,.int .i64 (F f).m,.bool (F f).r,.slice pv (F f).p cv,.slice pu (F f).u cu,.slice pn (F f).n cn] 48)).alloc (.cells (madeCells #[.bool false] ((F f).p*Tryz.t4.size)) 4)):=by rw [← hw2];exact hw3
 obtain ⟨G,hG⟩:∃ G,G=w2.heap.size:=⟨_,rfl⟩
 rw [← hG] at g3 z3
 have HG:Hid (G=w.heap.size+1+1):=hG.trans z2
 have H0:Hid (Fg w2 G (F f).p (CapL F (mdl (F f).N (F f).n) 0) w3∧w3.heap.size=G+1):=(⟨g3,z3⟩:_∧_)
 clear hw2 hw3 k2 b0 b1 z2 hfn hb vd hf g3 hG z3 k3 hvn0 e0
 unfold fnv at *
 go_enter Tryz.func18,Tryz.ntmps18
 go_upto_region 2 with fail
 rw [← (uh HW3),← (uh HG)]
 clear HW3 hmk
 obtain ⟨d0,d1,d2,d3,d4,d5,d6⟩:=(uh HE0) ()
 clear HE0 HG
 go_wp2_with fail
 refine (uh HC).mono ?_
 rintro e w4 ⟨v,rfl,hq⟩
 clear HC d0 d1 d2 d3 d4 d5 d6
 obtain ⟨ad,cap,rfl,hrow⟩:=hq.own
 obtain ⟨h3,z3⟩:=(uh H0)
 have H4:Hid (Fg w2 G (F f).p (CapL F (mdl (F f).N (F f).n) 0) w4∧Kx G w4 w4):=(⟨h3.keep (Kb.of_below hq.bl 0),Kx.refl _ _⟩:_∧_)
 obtain ⟨l,hl⟩:∃ l,l=mdl (F f).N (F f).n:=⟨_,rfl⟩
 rw [← hl] at hrow H4
 rw [← hl]
 have HL:Hid (l=mdl (F f).N (F f).n):=hl
 have HR:Hid (0 < l.length→∃ g,ad=some ⟨g,0,none⟩∧l.length≤cap∧∀ W,Kx G w4 W→∀ i,i < l.length→W.cell? ⟨g,i,none⟩=some (.int .i64 (l.getD i 0))):=(fun h=>by
  obtain ⟨g,q1,q2,q3,q4⟩:=hrow h
  exact ⟨g,q1,q3,fun W kx i hi=>(World.cell?_of_block (kx.block g (lt_of_cell (q4 i hi)) (by omega))).trans (q4 i hi)⟩ : 0 < l.length→_)
 have hlI:(l.length:Int)≤1048576:=by
  have:=mdl_len (F f).N (F f).n
  have:=(uh HB).2.2.2.1.hn f (uh HB).2.2.2.2.2
  rw [hl];omega
 obtain ⟨LL,hLL⟩:∃ LL,LL=l.length:=⟨_,rfl⟩
 rw [← hLL] at HR hlI
 rw [← hLL]
 have HLL:Hid (LL=l.length):=hLL
 clear hq hrow h3 z3 H0 hl hLL
 go_wp2_with fail
 go_loopw [17] (fun s17 wr=>∃ i:Nat,s17 = .int .i64 (i:Int)∧i≤LL∧Hid (Fg w2 G (F f).p (CapL F l i) wr∧Kx G w4 wr)) (fun s17 _=>LL - (intOf s17).toNat)
 case atStart=>exact ⟨0,rfl,Nat.zero_le _,H4⟩
 case round =>
  clear H4
  obtain ⟨i,rfl,hi0,HX⟩:=hrel
  obtain ⟨hx,kx⟩:=(uh HX)
  obtain ⟨k2,b0,hfn,hb,vd,hf⟩:=(uh HB)
  rcases Nat.lt_or_ge i LL with hi | hi
  case inr =>
   obtain rfl:i=LL:=by omega
   have hI:¬ (i:Int) < (i:Int):=by omega
   have HE:Hid (Fg w G (F f).p (CapS F f (F f).n) wr):=by
    have e:Fg w2 G (F f).p (CapS F f (F f).n) wr:=hx.eqv (fun y=>by rw [show i=l.length from HLL,show l = _ from HL];exact capl_all y)
    exact (⟨Nat.le_trans k2.size e.lo,e.hi,k2.trans e.kb,e.sn⟩:Fg w G (F f).p (CapS F f (F f).n) wr)
   clear HX hx kx k2 b0 hfn hb vd HB hi HL HLL HR
   go_wp2_with fail
   go_ret
   exact ⟨G,rfl,HE⟩
  have hI:(i:Int) < (LL:Int):=by omega
  obtain ⟨ga,rfl,hca,hrow⟩:=(uh HR) (by omega)
  have m0:=hrow wr kx i hi
  have hmem:l.getD i 0 ∈ mdl (F f).N (F f).n:=by rw [← show l = _ from HL];exact getD_mem (by rw [← show LL = _ from HLL];exact hi)
  obtain ⟨t,ht,h36,ht0⟩:=mdl_mem.1 hmem
  obtain ⟨g,hg,hgn⟩:=vd.rg t ht h36
  have hgl:l.getD i 0=(g:Int):=ht0.symm.trans hg
  rw [hgl] at m0
  have hgI:(g:Int) < (nf:Int):=by omega
  obtain ⟨xv,xu,xn,⟨-,-,-,-,-,h5,-⟩,-,⟨pe,ce,rfl,hru⟩,-⟩:=hfn g hgn
  have kw:=k2.trans hx.kb
  have e0:wr.cell? ⟨w.heap.size,0,none⟩=some (.slice (some a) nf ca):=hx.kb.cell (cell_of b0 rfl)
  have e3:wr.cell? ⟨(a.add (g*7)).block,(a.add (g*7)).off+5,none⟩=some (.slice pe (F g).u ce):=kw.cell h5
  have HJ:Hid (Fg w2 G (F f).p (fun y=>CapL F l i y∨UpS (F g) 0 y) wr∧Kx G w4 wr):=(⟨hx.eqv (fun y=>⟨fun q=>q.elim id (fun q=>absurd q (ups_zero _ _)),.inl⟩),kx⟩:_∧_)
  have HU:Hid (Kb 0 w w2∧(0 < (F g).u→∃ a,pe=some a∧(F g).u≤ce∧0≤a.block∧∀ i,i < (F g).u→CelU w (a.add (i*2)) ((F g).U i))∧l.getD i 0=(g:Int)∧(∀ j,j < (F g).u→((F g).U j).1=true→∃ x:Nat,((F g).U j).2=(x:Int)∧x < (F f).p)∧i < LL):=(⟨k2,hru,hgl,vd.up t ht h36 g hg,hi⟩:_∧_)
  have huI:((F g).u:Int)≤1048576:=by have:=hb.hu g hgn;omega
  clear HX hx kx k2 b0 hfn hb vd HB hrow hmem ht h36 ht0 hg hgn hgl h5 hru kw HL HLL HR hca hi
  go_wp2_with fail
  clear e0 e3 m0
  obtain ⟨wo,rfl⟩:∃ wo,wo=wr:=⟨_,rfl⟩
  go_loopw [28] (fun s28 wr=>∃ j:Nat,s28 = .int .i64 (j:Int)∧j≤(F g).u∧Hid (Fg w2 G (F f).p (fun y=>CapL F l i y∨UpS (F g) j y) wr∧Kx G w4 wr)) (fun s28 _=>(F g).u - (intOf s28).toNat)
  case atStart=>exact ⟨0,rfl,Nat.zero_le _,HJ⟩
  case round =>
   clear HJ
   obtain ⟨j,rfl,hj,HX⟩:=hrel
   obtain ⟨hx,kx⟩:=(uh HX)
   obtain ⟨k2,hru,hgl,hup,hi⟩:=(uh HU)
   rcases Nat.lt_or_ge j (F g).u with h | h
   case inr =>
    obtain rfl:j=(F g).u:=by omega
    have hI':¬ ((F g).u:Int) < ((F g).u:Int):=by omega
    have HN:Hid (Fg w2 G (F f).p (CapL F l (i+1)) wr∧Kx G w4 wr):=(⟨hx.eqv (capl_step hgl),kx⟩:_∧_)
    clear HX hx kx k2 hru hgl hup HU h
    go_wp2_with fail
    go_roundw
    case rel=>exact ⟨i+1,by go_num,by omega,HN⟩
    case measure=>simp [intOf];omega
   have hI':(j:Int) < ((F g).u:Int):=by omega
   obtain ⟨pE,rfl,hce,-,hru2⟩:=hru (by omega)
   obtain ⟨z0,z1⟩:=hru2 j h
   have kw:=k2.trans hx.kb
   replace z0:=kw.cell z0
   replace z1:=kw.cell z1
   cases hl:((F g).U j).1 with
   | true =>
    obtain ⟨x,hx2,hxp⟩:=hup j h hl
    rw [hl] at z0
    rw [hx2] at z1
    have hxI:(x:Int) < ((F f).p:Int):=by omega
    obtain ⟨bb,hbb⟩:∃ bb,wr.cell? ⟨G,x,none⟩=some (.bool bb):=⟨_,hx.sn.1 x hxp⟩
    have ca:∀ o,(wr.alloc o).cell? ⟨G,x,none⟩=some (.bool bb):=fun o=>(kb_alloc 0 wr o).cell hbb
    have cf:∀ o,(wr.alloc o).frozen? ⟨G,x,none⟩=false:=fun o=>((kb_alloc 0 wr o).frozen zq hx.hi).trans (hx.sn.2 x)
    have HN:Hid (Fg w2 G (F f).p (fun y=>CapL F l i y∨UpS (F g) (j+1) y) ((wr.alloc (.cells #[.bool true,.int .i64 (x:Int)] 61)).setCell ⟨G,x,none⟩ (.bool true))∧Kx G w4 ((wr.alloc (.cells #[.bool true,.int .i64 (x:Int)] 61)).setCell ⟨G,x,none⟩ (.bool true))):=(⟨(hx.keep (kb_alloc 0 wr _)).set hxp (fun y=>by rw [ups_t hl,hx2];exact or_assoc.symm),(kx.trans (.of_kb (kb_alloc 0 wr _))).set _ _⟩:_∧_)
    have hjs:j+1≤(F g).u:=h
    clear HX hx kx k2 hru hgl hup HU h hru2 kw hl hx2 hxp hbb hce
    go_wp2_with fail
    go_roundw
    case rel=>exact ⟨j+1,by go_num,hjs,HN⟩
    case measure=>simp [intOf];omega
   | false =>
    rw [hl] at z0
    have HN:Hid (Fg w2 G (F f).p (fun y=>CapL F l i y∨UpS (F g) (j+1) y) (wr.alloc (.cells #[.bool false,.int .i64 ((F g).U j).2] 61))∧Kx G w4 (wr.alloc (.cells #[.bool false,.int .i64 ((F g).U j).2] 61))):=(⟨(hx.keep (kb_alloc 0 wr _)).eqv (fun y=>by rw [ups_f hl]),kx.trans (.of_kb (kb_alloc 0 wr _))⟩:_∧_)
    have hjs:j+1≤(F g).u:=h
    clear HX hx kx k2 hru hgl hup HU h hru2 kw hl hce
    go_wp2_with fail
    go_roundw
    case rel=>exact ⟨j+1,by go_num,hjs,HN⟩
    case measure=>simp [intOf];omega
theorem im_captured {va : Value} {nf : Nat} {F : Nat → Fd} (w : World) (fn : Int) (hcu : ∀ W v, RowF 0 W v nf F → Bd nf F → Calls Tryz.prog 46 #[.agg #[v]] W fun e w' => ∃ c f n : Nat, e = .returned (.agg #[.int .i64 (c : Int), .int .i64 (f : Int), .int .i64 (n : Int)]) ∧ Ans nf F c f n ∧ Kb 0 W w') (ha : RowF 0 w va nf F) (hb : Bd nf F) :
  Calls Tryz.prog 7 #[.agg #[va],.int .i64 fn] w fun e w'=>∃ v,e = .returned v∧Cpa nf F fn w v w':=by
 have ha0:=ha
 obtain ⟨pa,ca,rfl,ha2⟩:=ha
 have hnfI:(nf:Int)≤1048576:=by have:=hb.hnf;omega
 obtain ⟨w2,hw2⟩:∃ w2,w2=w.alloc (.cells #[.slice pa nf ca] 30):=⟨_,rfl⟩
 have k2:Kb 0 w w2:=by rw [hw2];exact kb_alloc _ _ _
 have b0:w2.heap[w.heap.size]? = some (.cells #[.slice pa nf ca] 30 (0,0)):=by rw [hw2];exact alloc_new _ _ _
 have HC:Hid (Calls Tryz.prog 17 #[.agg #[.slice pa nf ca],.int .i64 fn] w2 fun e w'=>Bif (Hfn nf F fn) e∧Kb 0 w2 w'):=im_hasfn w2 fn hcu (ha0.keep k2) hb
 have HW2:Hid (w2=w.alloc (.cells #[.slice pa nf ca] 30)):=hw2
 have HB:Hid (Kb 0 w w2∧w2.heap[w.heap.size]? = some (.cells #[.slice pa nf ca] 30 (0,0))∧(0 < nf→∃ a:Addr,pa=some a∧nf≤ca∧0≤a.block∧∀ i,i < nf→FnC 0 w (a.add (i*7)) (F i))∧Bd nf F):=(⟨k2,b0,ha2,hb⟩:_∧_)
 clear hw2 k2 b0 ha2 hb ha0 hcu
 go_enter Tryz.func7,Tryz.ntmps7
 go_wp2_with fail
 rw [← (uh HW2)]
 clear HW2
 refine (uh HC).mono ?_
 obtain ⟨k2,b0,ha2,hb⟩:=(uh HB)
 rintro e w3 ⟨⟨rfl,hh⟩ | ⟨rfl,hh⟩,k3⟩
 case inr =>
  have HE:Hid (Cpa nf F fn w (.slice none 0 0) w3):=cpa_nil hh (k2.trans k3)
  clear HC HB k2 b0 ha2 hb hh k3
  go_wp2_with fail
  go_ret
  exact ⟨_,rfl,HE⟩
 obtain ⟨hans,h0,h1⟩:=hh
 obtain ⟨f,rfl⟩:∃ f:Nat,fn=(f:Int):=⟨fn.toNat,by omega⟩
 have hf:f < nf:=by omega
 obtain ⟨a,rfl,hca,-,hfn⟩:=ha2 (by omega)
 have k4:Kb 0 w w3:=k2.trans k3
 have u0:w3.cell? ⟨w.heap.size,0,none⟩=some (.slice (some a) nf ca):=k3.cell (cell_of b0 rfl)
 obtain ⟨vv,vu,vn,hcel,rv,ru,rn⟩:=(hfn f hf).keep zq k4
 obtain ⟨d0,d1,d2,d3,d4,d5,d6⟩:=hcel
 have rv0:=rv
 have ru0:=ru
 have rn0:=rn
 obtain ⟨pv,cv,rfl,-⟩:=rv
 obtain ⟨pu,cu,rfl,-⟩:=ru
 obtain ⟨pn,cn,rfl,-⟩:=rn
 have HC9:Hid (w3.cell? ⟨w.heap.size,0,none⟩=some (.slice (some a) nf ca)∧w3.cell? (a.add (f*7))=some (.string (F f).x)∧w3.cell? ⟨(a.add (f*7)).block,(a.add (f*7)).off+1,none⟩=some (.int .i64 (F f).l)∧w3.cell? ⟨(a.add (f*7)).block,(a.add (f*7)).off+2,none⟩=some (.int .i64 (F f).m)∧w3.cell? ⟨(a.add (f*7)).block,(a.add (f*7)).off+3,none⟩=some (.bool (F f).r)∧w3.cell? ⟨(a.add (f*7)).block,(a.add (f*7)).off+4,none⟩=some (.slice pv (F f).p cv)∧w3.cell? ⟨(a.add (f*7)).block,(a.add (f*7)).off+5,none⟩=some (.slice pu (F f).u cu)∧w3.cell? ⟨(a.add (f*7)).block,(a.add (f*7)).off+6,none⟩=some (.slice pn (F f).n cn)):=(⟨u0,d0,d1,d2,d3,d4,d5,d6⟩:_∧_)
 have HC4:Hid (∀ W,Kb 0 w3 W→Calls Tryz.prog 18 #[.agg #[.slice (some a) nf ca],.agg #[.string (F f).x,.int .i64 (F f).l,.int .i64 (F f).m,.bool (F f).r,.slice pv (F f).p cv,.slice pu (F f).u cu,.slice pn (F f).n cn]] W fun e w'=>∃ v,e = .returned v∧(w'.cell? ⟨w.heap.size,0,none⟩=some (.slice (some a) nf ca)∧w'.cell? (a.add (f*7))=some (.string (F f).x)∧w'.cell? ⟨(a.add (f*7)).block,(a.add (f*7)).off+1,none⟩=some (.int .i64 (F f).l)∧w'.cell? ⟨(a.add (f*7)).block,(a.add (f*7)).off+2,none⟩=some (.int .i64 (F f).m)∧w'.cell? ⟨(a.add (f*7)).block,(a.add (f*7)).off+3,none⟩=some (.bool (F f).r)∧w'.cell? ⟨(a.add (f*7)).block,(a.add (f*7)).off+4,none⟩=some (.slice pv (F f).p cv)∧w'.cell? ⟨(a.add (f*7)).block,(a.add (f*7)).off+5,none⟩=some (.slice pu (F f).u cu)∧w'.cell? ⟨(a.add (f*7)).block,(a.add (f*7)).off+6,none⟩=some (.slice pn (F f).n cn))∧Cpa nf F (f:Int) w v w'):=(fun W kd=>by
  have hv:=im_capt (a:=a) (ca:=ca) W hf (fun i hi=>(hfn i hi).keep zq (k4.trans kd)) (rv0.keep kd) (ru0.keep kd) (rn0.keep kd) hb (vd_of hb hans hf)
  unfold fnv at hv
  refine hv.mono ?_
  rintro e w' ⟨G,rfl,g⟩
  have kk:=kd.trans g.kb
  exact ⟨_,rfl,⟨kk.cell u0,kk.cell d0,kk.cell d1,kk.cell d2,kk.cell d3,kk.cell d4,kk.cell d5,kk.cell d6⟩,cpa_of hans hf (k4.trans kd) g⟩:∀ W,_)
 clear HC HB k2 b0 ha2 hb hans k3 hfn k4 hca rv0 ru0 rn0 hf
 have mixed:Tryz.prog.follows .mixedOrders=true:=by kernel_rfl
 have h0I:(f:Int) < (nf:Int):=h1
 clear h0 h1
 go_wp2_with fail
 go_region_held_law (fun W'=>W'.cell? ⟨w.heap.size,0,none⟩=some (.slice (some a) nf ca)∧W'.cell? (a.add (f*7))=some (.string (F f).x)∧W'.cell? ⟨(a.add (f*7)).block,(a.add (f*7)).off+1,none⟩=some (.int .i64 (F f).l)∧W'.cell? ⟨(a.add (f*7)).block,(a.add (f*7)).off+2,none⟩=some (.int .i64 (F f).m)∧W'.cell? ⟨(a.add (f*7)).block,(a.add (f*7)).off+3,none⟩=some (.bool (F f).r)∧W'.cell? ⟨(a.add (f*7)).block,(a.add (f*7)).off+4,none⟩=some (.slice pv (F f).p cv)∧W'.cell? ⟨(a.add (f*7)).block,(a.add (f*7)).off+5,none⟩=some (.slice pu (F f).u cu)∧W'.cell? ⟨(a.add (f*7)).block,(a.add (f*7)).off+6,none⟩=some (.slice pn (F f).n cn)) (first | exact s5 | exact (uh HC9))
  ((go_at_call 18;refine ((uh HC4) _ (by exact Kb.drewN (Kb.refl _ _) _)).mono ?_;rintro e w5 ⟨v,rfl,s5,hv⟩;have HV:Hid (Cpa nf F (f:Int) w v w5):=hv;clear hv))
 clear HC4 HC9 s5 u0 d0 d1 d2 d3 d4 d5 d6
 go_wp2_with fail
 go_ret
 exact ⟨_,rfl,HV⟩
end Go.Proofs.YtfpidccjcemcjaaGreat.Fo
