import Derived.Test.YtjakooihcbdcaaaGreatDoorMZsq
import Derived.Test.YtjakooihcbdcaaaGreatDoorMCfa
import Derived.Test.YtjakooihcbdcaaaGreatDoorMCba
import Derived.Test.YtjakooihcbdcaaaGreatDoorMCbb
set_option maxHeartbeats 16000000
namespace Go.Proofs.YtjakooihcbdcaaaGreatDoor.Fo
open Go.ChangeShapes Go.WideShapes Go.ChangeAt Go.RowKit
set_option linter.unusedVariables false
set_option maxRecDepth 100000
theorem sz_emp {x:ByteArray}:x=⟨#[]⟩↔x.size=0:=by
 constructor
 ·rintro rfl;rfl
 ·intro h;apply ByteArray.ext;exact Array.eq_empty_of_size_eq_zero h
theorem sp_nam {d : Pd} {b : Addr} {i : Nat} {pu pc pn : Option Addr} {cu cc cn cm : Nat} (w : World) (hi : i < d.d) (hd : d.d ≤ 1048576) (hn : d.n ≤ 1048576) (hcel : CelM w (b.add (i * 4)) (d.D i)) (hg : 0 ≤ d.g ∧ d.g ≤ 250) :
  Calls Tryz.prog 105 #[.agg #[.string d.x,.int .i64 d.l,.int .i64 d.m,.bool d.r,.int .i64 d.g,.slice pu d.u cu,.slice pc d.c cc,.slice pn d.n cn,.slice (some b) d.d cm],.int .i64 i] w fun e w'=>e = .returned (.bool (dc (Nok d i)))∧Kb 0 w w':=by
 obtain ⟨d0,d1,d2,d3⟩:=hcel.keep zq (kb_alloc 0 w (.cells #[.string d.x,.int .i64 d.l,.int .i64 d.m,.bool d.r,.int .i64 d.g,.slice pu d.u cu,.slice pc d.c cc,.slice pn d.n cn,.slice (some b) d.d cm] 62));unfold Nok;generalize d.D i=a at *;obtain ⟨x,g,f,t⟩:=a;obtain ⟨dx,l,m,r,G,u,U,c,C,n,N,dd,D⟩:=d;dsimp only at *;have hiI:(i:Int) < (dd:Int):=by omega
 have hdI:(dd:Int)≤1048576:=by omega
 have hnI:(n:Int)≤1048576:=by omega
 clear hi hd hn hcel;by_cases h0:i < 500
 rotate_left
 ·have g0:¬ (i:Int) < 500:=by omega
  rw [dc_f (fun q=>h0 (q.1))];go_enter Tryz.func105,Tryz.ntmps105;go_wp2_with ((go_at_call 107;first | refine (sp_in_t (by omega) _).mono ?_ | refine (sp_in_f (by omega) _).mono ?_);rintro e w1 ⟨rfl,rfl⟩);go_ret;exact ⟨by first | rfl | simp [h5],kb_alloc2 _ _ _ _⟩
 have g0:(i:Int) < 500:=by omega
 by_cases h1 : 1≤x.size∧x.size≤40
 rotate_left
 ·have g1:¬ ((1:Int)≤(x.size:Int)∧(x.size:Int)≤40):=by omega
  rw [dc_f (fun q=>h1 (q.2.1))];go_enter Tryz.func105,Tryz.ntmps105;go_wp2_with ((go_at_call 107;first | refine (sp_in_t (by omega) _).mono ?_ | refine (sp_in_f (by omega) _).mono ?_);rintro e w1 ⟨rfl,rfl⟩);go_ret;exact ⟨by first | rfl | simp [h5],kb_alloc2 _ _ _ _⟩
 have g1:(1:Int)≤(x.size:Int)∧(x.size:Int)≤40:=by omega
 by_cases h2 : 0≤g∧g≤G - 1
 rotate_left
 ·rw [dc_f (fun q=>h2 (q.2.2.1))];go_enter Tryz.func105,Tryz.ntmps105;go_wp2_with ((go_at_call 107;first | refine (sp_in_t (by omega) _).mono ?_ | refine (sp_in_f (by omega) _).mono ?_);rintro e w1 ⟨rfl,rfl⟩);go_ret;exact ⟨by first | rfl | simp [h5],kb_alloc2 _ _ _ _⟩
 skip
 by_cases h3 : 0≤f
 rotate_left
 ·rw [dc_f (fun q=>h3 (q.2.2.2.1))];go_enter Tryz.func105,Tryz.ntmps105;go_wp2_with ((go_at_call 107;first | refine (sp_in_t (by omega) _).mono ?_ | refine (sp_in_f (by omega) _).mono ?_);rintro e w1 ⟨rfl,rfl⟩);go_ret;exact ⟨by first | rfl | simp [h5],kb_alloc2 _ _ _ _⟩
 skip
 by_cases h4:f≤t
 rotate_left
 ·rw [dc_f (fun q=>h4 (q.2.2.2.2.1))];go_enter Tryz.func105,Tryz.ntmps105;go_wp2_with ((go_at_call 107;first | refine (sp_in_t (by omega) _).mono ?_ | refine (sp_in_f (by omega) _).mono ?_);rintro e w1 ⟨rfl,rfl⟩);go_ret;exact ⟨by first | rfl | simp [h5],kb_alloc2 _ _ _ _⟩
 skip
 by_cases h5:t≤(n:Int)
 rotate_left
 ·rw [dc_f (fun q=>h5 (q.2.2.2.2.2))];go_enter Tryz.func105,Tryz.ntmps105;go_wp2_with ((go_at_call 107;first | refine (sp_in_t (by omega) _).mono ?_ | refine (sp_in_f (by omega) _).mono ?_);rintro e w1 ⟨rfl,rfl⟩);go_ret;exact ⟨by first | rfl | simp [h5],kb_alloc2 _ _ _ _⟩
 skip
 rw [dc_t ⟨h0,h1,h2,h3,h4,h5⟩];go_enter Tryz.func105,Tryz.ntmps105;go_wp2_with ((go_at_call 107;first | refine (sp_in_t (by omega) _).mono ?_ | refine (sp_in_f (by omega) _).mono ?_);rintro e w1 ⟨rfl,rfl⟩);go_ret;exact ⟨by first | rfl | simp [h5],kb_alloc2 _ _ _ _⟩
def Lx (P:Nat→Nat→Prop) (L:Nat→Nat) (nf f n:Nat):Prop:=f < nf∧n < L f∧¬ P f n∧(∀ i,i < n→P f i)∧∀ g,g < f→∀ i,i < L g→P g i
def La (P:Nat→Nat→Prop) (L:Nat→Nat) (nf:Nat):Prop:=∀ f,f < nf→∀ i,i < L f→P f i
theorem Lx.uniq {P:Nat→Nat→Prop} {L:Nat→Nat} {nf f n g m:Nat} (h:Lx P L nf f n) (k:Lx P L nf g m):f=g∧n=m:=by
 obtain ⟨h1,h2,h3,h4,h5⟩:=h;obtain ⟨k1,k2,k3,k4,k5⟩:=k
 have hf:f=g:=by
  rcases Nat.lt_trichotomy f g with q | q | q
  ·exact absurd (k5 f q n h2) h3
  ·exact q
  ·exact absurd (h5 g q m k2) k3
 subst hf;refine ⟨rfl,?_⟩;rcases Nat.lt_trichotomy n m with q | q | q
 ·exact absurd (k4 n q) h3
 ·exact q
 ·exact absurd (h4 m q) k3
structure Bd (np:Nat) (F:Nat→Pd):Prop where
 hnp:np≤1048576
 hsm:sm (fun i=>(F i).n) np≤1048576
 hu:∀ p,p < np→(F p).u≤1048576
 hc:∀ p,p < np→(F p).c≤1048576
 hn:∀ p,p < np→(F p).n≤1048576
 hd:∀ p,p < np→(F p).d≤1048576
 hg:∀ p,p < np → -9223372036854775808≤(F p).g
 hC:∀ p,p < np→∀ i,i < (F p).c→(((F p).C i).x.size:Int)≤1048576∧((F p).C i).g < 18446744073709551616
def Szu (np:Nat) (F:Nat→Pd):Prop:=0 < np∧np≤200∧sm (fun i=>(F i).n) np≤6000
def MB (F:Nat→Pd) (p i:Nat) (k:Int):Prop:=∃ q j,(q < p∨(q=p∧j < i))∧j < (F q).n∧((F q).N j).o=11∧((F q).N j).b=k
def P5 (np:Nat) (F:Nat→Pd) (p i:Nat):Prop:=(F p).n ≠ 0∧Iok np (F p) i
def P6 (F:Nat→Pd) (p i:Nat):Prop:=((F p).N i).o=11→(p:Int) < ((F p).N i).b∧¬ MB F p i ((F p).N i).b∧Uok (F p) (F ((F p).N i).b.toNat)
def P7 (np:Nat) (F:Nat→Pd) (p:Nat):Prop:=p=0∨MB F np 0 (p:Int)
def L5 (F:Nat→Pd) (p:Nat):Nat:=if (F p).n=0 then 1 else (F p).n
def PQ (F:Nat→Pd) (np:Nat) (c p i:Nat):Prop :=
 match c with
 | 2=>Hd p (F p)
 | 3=>Cok ((F p).C i)
 | 4=>Nok (F p) i
 | 5=>P5 np F p i
 | 6=>P6 F p i
 | _=>P7 np F p
def LQ (F:Nat→Pd) (c p:Nat):Nat :=
 match c with
 | 2=>1
 | 3=>(F p).c
 | 4=>(F p).d
 | 5=>L5 F p
 | 6=>(F p).n
 | _=>1
def Ans (m np:Nat) (F:Nat→Pd) (c f n:Nat):Prop :=
 (c=1∧f=0∧n=0∧¬ Szu np F)∨(Szu np F∧2≤c∧c≤m∧Lx (PQ F np c) (LQ F c) np f n∧∀ c',2≤c'→c' < c→La (PQ F np c') (LQ F c') np)∨(Szu np F∧c=0∧f=0∧n=0∧∀ c',2≤c'→c'≤m→La (PQ F np c') (LQ F c') np)
theorem lx_la {P:Nat→Nat→Prop} {L:Nat→Nat} {nf f n:Nat} (h:Lx P L nf f n) (k:La P L nf):False:=h.2.2.1 (k f h.1 n h.2.1)
theorem Ans.uniq {m np:Nat} {F:Nat→Pd} {c f n c' f' n':Nat} (h:Ans m np F c f n) (k:Ans m np F c' f' n'):c=c'∧f=f'∧n=n':=by
  rcases h with ⟨h1,h2,h3,h4⟩ | ⟨h1,h2,h3,h4,h5⟩ | ⟨h1,h2,h3,h4,h5⟩ <;> rcases k with ⟨k1,k2,k3,k4⟩ | ⟨k1,k2,k3,k4,k5⟩ | ⟨k1,k2,k3,k4,k5⟩
  · exact ⟨by omega,by omega,by omega⟩
  · exact absurd k1 h4
  · exact absurd k1 h4
  · exact absurd h1 k4
  · have e : c = c' := by
      rcases Nat.lt_trichotomy c c' with q | q | q
      · exact (lx_la h4 (k5 c h2 q)).elim
      · exact q
      · exact (lx_la k4 (h5 c' k2 q)).elim
    subst e;exact ⟨rfl,h4.uniq k4⟩
  · exact (lx_la h4 (k5 c h2 h3)).elim
  · exact absurd h1 k4
  · exact (lx_la k4 (h5 c' k2 k3)).elim
  · exact ⟨by omega,by omega,by omega⟩
