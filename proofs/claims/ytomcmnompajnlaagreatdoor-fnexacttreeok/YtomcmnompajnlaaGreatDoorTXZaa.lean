import Derived.Test.YtomcmnompajnlaaGreatDoorBBab
import Derived.Test.YtomcmnompajnlaaGreatDoorBBaa
import Derived.Test.YtomcmnompajnlaaGreatDoorProg
import GoSem.Claim
import GoSem.ClaimJoined
import GoSem.ClaimMapViews
import Derived.JoinedTies
import Derived.KernelRfl
import Derived.WalkKit
import Derived.ProofKit
import Derived.OpenShut
import Derived.Handy
import Derived.Laws.Strings3
import Derived.Lib.Strings
import Derived.Laws.OwnMore
import Derived.Laws.IdiomStrings
import Derived.Lib.UnsafeStr
import Derived.Deep.QuietTactic
import Derived.BigQuiet
import Derived.Deep.AppendLies
import Derived.Deep.RegionHeldLaw
import Derived.Deep.CutBlock
import Derived.Laws.MakeOwn
import Derived.OwnWalk
import Derived.WalkSpells
import Derived.Deep.Slices
import Derived.SizedLaws
import Derived.Carry
import Derived.Test.YtomcmnompajnlaaGreatDoorTXFlt
set_option maxRecDepth 100000
set_option maxHeartbeats 4000000
namespace Go.Proofs.YtomcmnompajnlaaGreatDoor.Fo.Po
open Go.ChangeShapes Go.WideShapes Go.ChangeAt Go.RowKit
set_option linter.unusedVariables false
theorem quo_run {x r:Nat} (h:floatBits .quo .f64 4607182418800017408 x=some r) (w:World):(binOp .quo 100 (.float .f64 4607182418800017408) (.float .f64 x)).run Tryz.prog w = .ok (.float .f64 r) w :=
 run_float_arith w .quo 100 .f64 _ _ _ h
theorem same_flt (x:Nat) (hx:x < 18446744073709551616) (w:World):Calls Tryz.prog 127 #[.float .f64 x,.float .f64 x] w fun e w'=>e = .returned (.bool true)∧w'=w:=by
 rcases Flt.zero_cases x hx with h | ⟨h,h0,hz⟩ | ⟨h,h0⟩
 ·go_enter Tryz.func127,Tryz.ntmps127
  go_wp2
  go_ret
  exact ⟨rfl,rfl⟩
 ·rcases hz with rfl | rfl
  ·have hq:=quo_run (x:=0) (r:=9218868437227405312) (by decide)
   have hg:FloatKind.f64.format.order 9218868437227405312 0=some .gt:=by decide
   go_enter Tryz.func127,Tryz.ntmps127
   go_wp2
   go_ret
   exact ⟨rfl,rfl⟩
  ·have hq:=quo_run (x:=9223372036854775808) (r:=18442240474082181120) (by decide)
   have hg:FloatKind.f64.format.order 18442240474082181120 0=some .lt:=by decide
   go_enter Tryz.func127,Tryz.ntmps127
   go_wp2
   go_ret
   exact ⟨rfl,rfl⟩
 ·rcases h0 with h0 | h0
  all_goals
   go_enter Tryz.func127,Tryz.ntmps127
   go_wp2
   go_ret
   exact ⟨rfl,rfl⟩
def fz (g:Nat):Prop:=FloatKind.f64.format.order g 0=some .eq
def fn (g:Nat):Prop:=FloatKind.f64.format.order g g=some .eq
theorem f_cases (g : Nat) (hg : g < 18446744073709551616) :
  (¬ fz g∧¬ fn g∧FloatKind.f64.format.order g g=none∧FloatKind.f64.format.order g 0=none) ∨
  (fz g∧fn g∧FloatKind.f64.format.order g g=some .eq∧FloatKind.f64.format.order g 0=some .eq) ∨
  (¬ fz g∧fn g∧FloatKind.f64.format.order g g=some .eq∧(FloatKind.f64.format.order g 0=some .lt∨FloatKind.f64.format.order g 0=some .gt)):=by
 unfold fz fn
 rcases Flt.zero_cases g hg with h | ⟨h,h0,_⟩ | ⟨h,h0⟩
 ·left
  have h0:FloatKind.f64.format.order g 0=none:=by
   rcases Flt.order_cases g 0 with ⟨_,k⟩ | ⟨k,_⟩ | ⟨k,_⟩
   ·exact k
   ·rw [h] at k;cases k
   ·rw [h] at k;cases k
  exact ⟨by rw [h0];simp,by rw [h];simp,h,h0⟩
 ·right;left;exact ⟨h0,h,h,h0⟩
 ·right;right
  refine ⟨?_,h,h,h0⟩
  rcases h0 with h0 | h0 <;> rw [h0] <;> simp
structure Fv where
 k:Int
 f:Int
 t:Int
 l:Int
 o:Int
 m:Int
 g:Nat
 x:ByteArray
def fmv (a:Fv) (vn vk:Value):Value:=.agg #[.int .i64 a.k,.int .i64 a.f,.int .i64 a.t,.int .i64 a.l,.int .i64 a.o,.int .i64 a.m,.float .f64 a.g,.string a.x,vn,vk]
theorem eq_form {a : Fv} {n1 k1 n2 k2 : Value} {p q : Nat} {A : Nat → ByteArray} {K : Nat → Int} (w : World)
  (h1:RowV w n1 p (fun i=>.string (A i))) (h2:RowV w n2 p (fun i=>.string (A i))) (h3:RowV w k1 q (fun i=>.int .i64 (K i))) (h4:RowV w k2 q (fun i=>.int .i64 (K i))) (hp:p≤1048576) (hq:q≤1048576) (hg:a.g < 18446744073709551616) :
  Calls Tryz.prog 95 #[fmv a n1 k1,fmv a n2 k2] w fun e w'=>e = .returned (.bool true)∧Below w.heap.size w w':=by
 unfold fmv
 have g1:Hid (∀ W',Below w.heap.size w W'→Calls Tryz.prog 109 #[n1,n2] W' fun e w'=>e = .returned (.bool true)∧∃ d,w'=W'.drewN d):=(fun W' hb=>eq_strs W' (h1.below hb) (h2.below hb) hp:∀ W',_)
 have g2:Hid (∀ W',Below w.heap.size w W'→Calls Tryz.prog 16 #[k1,k2] W' fun e w'=>e = .returned (.bool true)∧∃ d,w'=W'.drewN d):=(fun W' hb=>eq_ints W' (h3.below hb) (h4.below hb) hq:∀ W',_)
 clear h1 h2 h3 h4 hp hq
 obtain ⟨k,f,t,l,o,m,g,x⟩:=a
 have hsf:=same_flt g hg
 clear hg
 go_enter Tryz.func95,Tryz.ntmps95
 go_wp2_with fail
 refine (hsf _).mono ?_
 rintro e w4 ⟨rfl,rfl⟩
 go_wp2_with fail
 refine (g1 _ (bel2 _ _ _)).mono ?_
 rintro e w5 ⟨rfl,d,rfl⟩
 go_wp2_with fail
 refine (g2 _ (bdn (bel2 _ _ _) _)).mono ?_
 rintro e w5 ⟨rfl,d2,rfl⟩
 go_wp2_with fail
 go_ret
 exact ⟨rfl,bdn (bel2 _ _ _) _⟩
theorem sz_form {a : Fv} {n1 k1 : Value} {p q : Nat} {A : Nat → ByteArray} {K : Nat → Int} (w : World) (l : Int)
    (h1:RowV w n1 p (fun i=>.string (A i))) (h3:RowV w k1 q (fun i=>.int .i64 (K i))) (hx:(a.x.size:Int) < 140737488355328) (hp:(p:Int) < 140737488355328) (hA:∀ i,i < p→((A i).size:Int) < 140737488355328) (hq:(q:Int) < 140737488355328) (hl0 : 0≤l) (hl:l≤1048576) :
    Calls Tryz.prog 84 #[fmv a n1 k1,.int .i64 l] w fun e w'=>e = .returned (.int .i64 (szf a.x p A q l))∧Below w.heap.size w w':=by
  unfold fmv
  have g1:Hid (∀ W' l,Below w.heap.size w W'→0≤l→l≤1048576→Calls Tryz.prog 96 #[n1,.int .i64 l] W' fun e w'=>e = .returned (.int .i64 (if lfs A (l - p) p < 0 then -1 else lfs A (l - p) p))∧w'=W'):=(fun W' l hb g0 g=>sz_strs W' l (h1.below hb) hp hA g0 g:∀ W' l,_)
  have g2:Hid (∀ W' l,Below w.heap.size w W'→0≤l→l≤1048576→Calls Tryz.prog 97 #[k1,.int .i64 l] W' fun e w'=>e = .returned (.int .i64 (if l - q < 0 then -1 else l - q))∧w'=W'):=(fun W' l hb g0 g=>sz_ints W' l (h3.below hb) hq g0 g:∀ W' l,_)
  clear h1 h3 hp hA hq
  obtain ⟨k,f,t,ln,o,m,g,x⟩:=a
  replace hx:(x.size:Int) < 140737488355328:=hx
  have hs0:(0:Int)≤(x.size:Int):=Int.natCast_nonneg _
  obtain ⟨R,hR⟩:∃ R,R=szf x p A q l:=⟨_,rfl⟩
  show Calls _ _ _ _ fun e w'=>e = .returned (.int .i64 (szf x p A q l))∧Below w.heap.size w w'
  rw [← hR]
  unfold szf at hR
  go_enter Tryz.func84,Tryz.ntmps84
  rcases Int.lt_or_le (l - (x.size:Int)) 0 with c1 | c1
  · rw [if_pos c1] at hR
    subst hR
    clear g1 g2
    go_wp2_with fail
    go_ret
    exact ⟨rfl,bel1 _ _⟩
  · have c1':¬ (l - (x.size:Int) < 0):=by omega
    rw [if_neg c1'] at hR
    have HR:Hid (R=if lfs A (l - (x.size:Int) - p) p < 0 then -1 else if lfs A (l - (x.size:Int) - p) p - q < 0 then -1 else lfs A (l - (x.size:Int) - p) p - q):=hR
    clear hR
    go_wp2_with fail
    refine (g1 _ _ (bel1 _ _) c1 (by omega)).mono ?_
    rintro e w5 ⟨rfl,rfl⟩
    have hR:=(show R=if lfs A (l - (x.size:Int) - p) p < 0 then -1 else if lfs A (l - (x.size:Int) - p) p - q < 0 then -1 else lfs A (l - (x.size:Int) - p) p - q from HR)
    have hy1:=lfs_le A (l - (x.size:Int) - p) p
    generalize lfs A (l - (x.size:Int) - p) p=y at *
    clear HR g1
    rcases Int.lt_or_le y 0 with c2 | c2
    · rw [if_pos c2] at hR ⊢
      subst hR
      clear g2
      go_wp2_with fail
      go_ret
      exact ⟨rfl,bel1 _ _⟩
    · have c2':¬ (y < 0):=by omega
      rw [if_neg c2'] at hR ⊢
      have HR:Hid (R=if y - q < 0 then -1 else y - q):=hR
      clear hR
      have hp0:(0:Int)≤(p:Int):=Int.natCast_nonneg _
      have hy2:y≤1048576:=by omega
      clear hy1 hp0 c1 c1' hs0 hx hl0 hl
      go_wp2_with fail
      refine (g2 _ _ (bel1 _ _) c2 hy2).mono ?_
      rintro e w5 ⟨rfl,rfl⟩
      have hR:=(show R=if y - q < 0 then -1 else y - q from HR)
      rw [← hR]
      clear HR g2
      rcases Int.lt_or_le R 0 with c3 | c3
      · have e3 : R = -1 := by
          by_cases h:y - q < 0
          · rw [if_pos h] at hR;exact hR
          · rw [if_neg h] at hR;omega
        subst e3
        clear hR
        go_wp2_with fail
        go_ret
        exact ⟨rfl,bel1 _ _⟩
      · have c3':¬ (R < 0):=by omega
        clear hR
        go_wp2_with fail
        go_ret
        exact ⟨rfl,bel1 _ _⟩
theorem to_form {a : Fv} {n1 k1 : Value} {p q : Nat} {A : Nat → ByteArray} {K : Nat → Int} (w : World)
  (h1:RowV w n1 p (fun i=>.string (A i))) (h3:RowV w k1 q (fun i=>.int .i64 (K i))) (hp:p≤1048576) (hq:q≤1048576) :
  Calls Tryz.prog 88 #[fmv a n1 k1] w fun e w'=>∃ vn vk gn gk,e = .returned (fmv a vn vk)∧OwnR w' vn gn p (fun i=>.string (A i))∧OwnR w' vk gk q (fun i=>.int .i64 (K i))∧w.heap.size≤gn∧gn < gk∧gk < w'.heap.size∧Below w.heap.size w w':=by
 unfold fmv
 have g1:Hid (∀ W',Below w.heap.size w W'→Calls Tryz.prog 105 #[n1] W' fun e w'=>∃ v,e = .returned v∧OwnR w' v W'.heap.size p (fun i=>.string (A i))∧Below W'.heap.size W' w'∧W'.heap.size < w'.heap.size):=(fun W' hb=>to_strs W' (h1.below hb) hp:∀ W',_)
 have g2:Hid (∀ W',Below w.heap.size w W'→Calls Tryz.prog 106 #[k1] W' fun e w'=>∃ v,e = .returned v∧OwnR w' v W'.heap.size q (fun i=>.int .i64 (K i))∧Below W'.heap.size W' w'∧W'.heap.size < w'.heap.size):=(fun W' hb=>to_ints W' (h3.below hb) hq:∀ W',_)
 clear h1 h3 hp hq
 obtain ⟨k,f,t,l,o,m,g,x⟩:=a
 have hst:∀ (a:Addr) (n:Nat) (m:Mode) (w:World),(store a (.float .f64 n) m).run Tryz.prog w=stored Tryz.prog w a (.float .f64 n) m:=fun a n m w=>run_store _ _ _ _ _ rfl
 go_enter Tryz.func88,Tryz.ntmps88
 go_wp2_with fail
 obtain ⟨w3,hw3⟩:∃ w3,w3=((w.alloc (.cells #[.int .i64 k,.int .i64 f,.int .i64 t,.int .i64 l,.int .i64 o,.int .i64 m,.float .f64 g,.string x,n1,k1] 131)).alloc (.cells #[.int .i64 0,.int .i64 0,.int .i64 0,.int .i64 0,.int .i64 0,.int .i64 0,.float .f64 0,.string ⟨#[]⟩,.slice none 0 0,.slice none 0 0] 102)).alloc (.cells #[.int .i64 k,.int .i64 f,.int .i64 t,.int .i64 l,.int .i64 o,.int .i64 m,.float .f64 g,.string x,.slice none 0 0,.slice none 0 0] 102):=⟨_,rfl⟩
 obtain ⟨r0,r1,r2,s1,s2,z3⟩:=al3 w _ _ _ _ _ _ w3 hw3
 have b3:Below w.heap.size w w3:=by rw [hw3];exact bel3 _ _ _ _
 rw [← hw3]
 clear hw3
 refine (g1 _ b3).mono ?_
 rintro e w5 ⟨vn,rfl,hvn,hb5,lt5⟩
 have HL5:Hid (w3.heap.size < w5.heap.size):=lt5
 clear lt5
 obtain ⟨pn,cn,rfl,hsn⟩:=hvn.sl
 clear hsn g1
 have e0:∀ j,w5.cell? ⟨w.heap.size,j,none⟩=w3.cell? ⟨w.heap.size,j,none⟩:=fun j=>hb5.cell (p:=⟨w.heap.size,j,none⟩) (by show w.heap.size < w3.heap.size;omega)
 have e1:∀ j,w5.cell? ⟨w.heap.size+1,j,none⟩=w3.cell? ⟨w.heap.size+1,j,none⟩:=fun j=>hb5.cell (p:=⟨w.heap.size+1,j,none⟩) (by show w.heap.size+1 < w3.heap.size;omega)
 have e2:∀ j,w5.cell? ⟨w.heap.size+1+1,j,none⟩=w3.cell? ⟨w.heap.size+1+1,j,none⟩:=fun j=>hb5.cell (p:=⟨w.heap.size+1+1,j,none⟩) (by show w.heap.size+1+1 < w3.heap.size;omega)
 have u1:∀ j,w5.frozen? ⟨w.heap.size+1,j,none⟩=false:=fun j=>(hb5.frozen (p:=⟨w.heap.size+1,j,none⟩) (by show w.heap.size+1 < w3.heap.size;omega)).trans (s1 j)
 have u2:∀ j,w5.frozen? ⟨w.heap.size+1+1,j,none⟩=false:=fun j=>(hb5.frozen (p:=⟨w.heap.size+1+1,j,none⟩) (by show w.heap.size+1+1 < w3.heap.size;omega)).trans (s2 j)
 have q8:w5.cell? ⟨w.heap.size,9,none⟩=some k1:=(e0 9).trans (r0 9)
 have o7:w5.cell? ⟨w.heap.size+1+1,8,none⟩=some (.slice none 0 0):=(e2 8).trans (r2 8)
 have f8:=u2 8
 obtain ⟨wa,hwa⟩:∃ wa,wa=w5.setCell ⟨w.heap.size+1+1,8,none⟩ (.slice pn p cn):=⟨_,rfl⟩
 have za:wa.heap.size=w5.heap.size:=by rw [hwa];simp
 have ba:Below w.heap.size w wa:=by rw [hwa];exact (b3.trans (hb5.mono (by omega))).setCell (by show w.heap.size≤w.heap.size+1+1;omega) _
 have HV:Hid (OwnR w5 (.slice pn p cn) w3.heap.size p (fun i=>.string (A i))∧Below w3.heap.size w3 w5∧w3.heap.size=w.heap.size+1+1+1∧wa.heap.size=w5.heap.size∧Below w.heap.size w wa∧wa=w5.setCell ⟨w.heap.size+1+1,8,none⟩ (.slice pn p cn)):=(⟨hvn,hb5,z3,za,ba,hwa⟩:_∧_∧_∧_∧_∧_)
 have HC:Hid ((∀ j,w5.cell? ⟨w.heap.size+1,j,none⟩=(#[.int .i64 0,.int .i64 0,.int .i64 0,.int .i64 0,.int .i64 0,.int .i64 0,.float .f64 0,.string ⟨#[]⟩,.slice none 0 0,.slice none 0 0]:Array Value)[j]?)∧(∀ j,w5.cell? ⟨w.heap.size+1+1,j,none⟩=(#[.int .i64 k,.int .i64 f,.int .i64 t,.int .i64 l,.int .i64 o,.int .i64 m,.float .f64 g,.string x,.slice none 0 0,.slice none 0 0]:Array Value)[j]?)∧(∀ j,w5.frozen? ⟨w.heap.size+1,j,none⟩=false)∧(∀ j,w5.frozen? ⟨w.heap.size+1+1,j,none⟩=false)):=(⟨fun j=>(e1 j).trans (r1 j),fun j=>(e2 j).trans (r2 j),u1,u2⟩:_∧_∧_∧_)
 clear hvn hb5 e0 e1 e2 u1 u2 r0 r1 r2 s1 s2 z3 b3 za ba hwa
 go_wp2_with fail
 have HV':=(show OwnR w5 (.slice pn p cn) w3.heap.size p (fun i=>.string (A i))∧Below w3.heap.size w3 w5∧w3.heap.size=w.heap.size+1+1+1∧wa.heap.size=w5.heap.size∧Below w.heap.size w wa∧wa=w5.setCell ⟨w.heap.size+1+1,8,none⟩ (.slice pn p cn) from HV)
 obtain ⟨hvn,hb5,z3,za,ba,hwa⟩:=HV'
 obtain ⟨e1,e2,u1,u2⟩:=(show (∀ j,w5.cell? ⟨w.heap.size+1,j,none⟩=(#[.int .i64 0,.int .i64 0,.int .i64 0,.int .i64 0,.int .i64 0,.int .i64 0,.float .f64 0,.string ⟨#[]⟩,.slice none 0 0,.slice none 0 0]:Array Value)[j]?)∧(∀ j,w5.cell? ⟨w.heap.size+1+1,j,none⟩=(#[.int .i64 k,.int .i64 f,.int .i64 t,.int .i64 l,.int .i64 o,.int .i64 m,.float .f64 g,.string x,.slice none 0 0,.slice none 0 0]:Array Value)[j]?)∧(∀ j,w5.frozen? ⟨w.heap.size+1,j,none⟩=false)∧(∀ j,w5.frozen? ⟨w.heap.size+1+1,j,none⟩=false) from HC)
 have z5:=hb5.size
 rw [← hwa]
 refine (g2 _ ba).mono ?_
 rintro e w6 ⟨vk,rfl,hvk,hb6,lt6⟩
 have HL6:Hid (wa.heap.size < w6.heap.size):=lt6
 clear lt6
 obtain ⟨pk,ck,rfl,hsk⟩:=hvk.sl
 clear hsk g2 HV HC
 have y1:∀ j,w6.cell? ⟨w.heap.size+1,j,none⟩=w5.cell? ⟨w.heap.size+1,j,none⟩:=fun j=>by
  rw [hb6.cell (p:=⟨w.heap.size+1,j,none⟩) (by show w.heap.size+1 < wa.heap.size;omega),hwa]
  exact World.cell?_setCell_other _ _ _ _ (fun e=>by have:=congrArg Addr.block e;simp at this)
 have y2:∀ j,j ≠ 8→w6.cell? ⟨w.heap.size+1+1,j,none⟩=w5.cell? ⟨w.heap.size+1+1,j,none⟩:=fun j hj=>by
  rw [hb6.cell (p:=⟨w.heap.size+1+1,j,none⟩) (by show w.heap.size+1+1 < wa.heap.size;omega),hwa]
  exact set_ne _ _ _ _ _ hj
 have x8:w6.cell? ⟨w.heap.size+1+1,8,none⟩=some (.slice pn p cn):=by
  rw [hb6.cell (p:=⟨w.heap.size+1+1,8,none⟩) (by show w.heap.size+1+1 < wa.heap.size;omega),hwa]
  exact set_eq _ _ _ _ _ o7
 have a0:w6.cell? ⟨w.heap.size+1,0,none⟩=some (.int .i64 0):=(y1 0).trans (e1 0)
 have x0:w6.cell? ⟨w.heap.size+1+1,0,none⟩=some (.int .i64 k):=(y2 0 (by omega)).trans (e2 0)
 have a1:w6.cell? ⟨w.heap.size+1,1,none⟩=some (.int .i64 0):=(y1 1).trans (e1 1)
 have x1:w6.cell? ⟨w.heap.size+1+1,1,none⟩=some (.int .i64 f):=(y2 1 (by omega)).trans (e2 1)
 have a2:w6.cell? ⟨w.heap.size+1,2,none⟩=some (.int .i64 0):=(y1 2).trans (e1 2)
 have x2:w6.cell? ⟨w.heap.size+1+1,2,none⟩=some (.int .i64 t):=(y2 2 (by omega)).trans (e2 2)
 have a3:w6.cell? ⟨w.heap.size+1,3,none⟩=some (.int .i64 0):=(y1 3).trans (e1 3)
 have x3:w6.cell? ⟨w.heap.size+1+1,3,none⟩=some (.int .i64 l):=(y2 3 (by omega)).trans (e2 3)
 have a4:w6.cell? ⟨w.heap.size+1,4,none⟩=some (.int .i64 0):=(y1 4).trans (e1 4)
 have x4:w6.cell? ⟨w.heap.size+1+1,4,none⟩=some (.int .i64 o):=(y2 4 (by omega)).trans (e2 4)
 have a5:w6.cell? ⟨w.heap.size+1,5,none⟩=some (.int .i64 0):=(y1 5).trans (e1 5)
 have x5:w6.cell? ⟨w.heap.size+1+1,5,none⟩=some (.int .i64 m):=(y2 5 (by omega)).trans (e2 5)
 have a6:w6.cell? ⟨w.heap.size+1,6,none⟩=some (.float .f64 0):=(y1 6).trans (e1 6)
 have x6:w6.cell? ⟨w.heap.size+1+1,6,none⟩=some (.float .f64 g):=(y2 6 (by omega)).trans (e2 6)
 have a7:w6.cell? ⟨w.heap.size+1,7,none⟩=some (.string ⟨#[]⟩):=(y1 7).trans (e1 7)
 have x7:w6.cell? ⟨w.heap.size+1+1,7,none⟩=some (.string x):=(y2 7 (by omega)).trans (e2 7)
 have a8:w6.cell? ⟨w.heap.size+1,8,none⟩=some (.slice none 0 0):=(y1 8).trans (e1 8)
 have a9:w6.cell? ⟨w.heap.size+1,9,none⟩=some (.slice none 0 0):=(y1 9).trans (e1 9)
 have x9:w6.cell? ⟨w.heap.size+1+1,9,none⟩=some (.slice none 0 0):=(y2 9 (by omega)).trans (e2 9)
 have v1:∀ j,w6.frozen? ⟨w.heap.size+1,j,none⟩=false:=fun j=>by
  rw [hb6.frozen (p:=⟨w.heap.size+1,j,none⟩) (by show w.heap.size+1 < wa.heap.size;omega),hwa]
  simp [u1 j]
 have v2:w6.frozen? ⟨w.heap.size+1+1,9,none⟩=false:=by
  rw [hb6.frozen (p:=⟨w.heap.size+1+1,9,none⟩) (by show w.heap.size+1+1 < wa.heap.size;omega),hwa]
  simp [u2 9]
 have HE:Hid (OwnR w5 (.slice pn p cn) w3.heap.size p (fun i=>.string (A i))∧OwnR w6 (.slice pk q ck) wa.heap.size q (fun i=>.int .i64 (K i))∧Below wa.heap.size wa w6∧Below w.heap.size w wa∧wa=w5.setCell ⟨w.heap.size+1+1,8,none⟩ (.slice pn p cn)∧w3.heap.size=w.heap.size+1+1+1∧w3.heap.size≤w5.heap.size):=(⟨hvn,hvk,hb6,ba,hwa,z3,z5⟩:_∧_∧_∧_∧_∧_∧_)
 clear hvn hvk hb6 ba hwa z3 z5 za hb5 e1 e2 u1 u2 y1 y2 q8 o7 f8
 go_wp2_with fail
 refine bodyPost_ret (by simp [results,Tryz.results88,go_sem,a0,a1,a2,a3,a4,a5,a6,a7,a8,a9];rfl) rfl ?_
 obtain ⟨hvn,hvk,hb6,ba,hwa,z3,z5⟩:=(show OwnR w5 (.slice pn p cn) w3.heap.size p (fun i=>.string (A i))∧OwnR w6 (.slice pk q ck) wa.heap.size q (fun i=>.int .i64 (K i))∧Below wa.heap.size wa w6∧Below w.heap.size w wa∧wa=w5.setCell ⟨w.heap.size+1+1,8,none⟩ (.slice pn p cn)∧w3.heap.size=w.heap.size+1+1+1∧w3.heap.size≤w5.heap.size from HE)
 clear HE a0 a1 a2 a3 a4 a5 a6 a7 a8 a9 x0 x1 x2 x3 x4 x5 x6 x7 x8 x9 v1 v2
 have za:wa.heap.size=w5.heap.size:=by rw [hwa];simp
 have hq:=(((((((((((Kq.refl (fun k=>k=w.heap.size+1∨k=w.heap.size+1+1) w6).setCell ⟨w.heap.size+1+1,9,none⟩ (Or.inr rfl) (.slice pk q ck)).setCell ⟨w.heap.size+1,0,none⟩ (Or.inl rfl) (.int .i64 k)).setCell ⟨w.heap.size+1,1,none⟩ (Or.inl rfl) (.int .i64 f)).setCell ⟨w.heap.size+1,2,none⟩ (Or.inl rfl) (.int .i64 t)).setCell ⟨w.heap.size+1,3,none⟩ (Or.inl rfl) (.int .i64 l)).setCell ⟨w.heap.size+1,4,none⟩ (Or.inl rfl) (.int .i64 o)).setCell ⟨w.heap.size+1,5,none⟩ (Or.inl rfl) (.int .i64 m)).setCell ⟨w.heap.size+1,6,none⟩ (Or.inl rfl) (.float .f64 g)).setCell ⟨w.heap.size+1,7,none⟩ (Or.inl rfl) (.string x)).setCell ⟨w.heap.size+1,8,none⟩ (Or.inl rfl) (.slice pn p cn)).setCell ⟨w.heap.size+1,9,none⟩ (Or.inl rfl) (.slice pk q ck)
 generalize World.setCell _ (⟨w.heap.size+1,9,none⟩:Addr) (Value.slice pk q ck)=wf at hq ⊢
 have zw:=ba.size
 have z6:=hb6.size
 have zf:=hq.size
 have l5:w3.heap.size < w5.heap.size:=HL5
 have l6:wa.heap.size < w6.heap.size:=HL6
 refine ⟨_,_,w3.heap.size,wa.heap.size,rfl,hvn.block ?_,hvk.block ?_,by omega,?_,by omega,?_⟩
 ·intro hp
  have hl:=lt_of_cell (hvn.cell 0 hp)
  rw [hq.block _ (by omega) (by omega),hb6.block _ (by omega),hwa]
  exact Below.heap_setCell _ _ _ _ (by show w3.heap.size ≠ w.heap.size+1+1;omega)
 ·intro hp
  exact hq.block _ (lt_of_cell (hvk.cell 0 hp)) (by omega)
 ·omega
 ·exact ⟨hq.os.trans (hb6.os.trans ba.os),hq.tape.trans (hb6.tape.trans ba.tape),hq.output.trans (hb6.output.trans ba.output),by omega,fun j hj=>(hq.block j (by omega) (by omega)).trans ((hb6.block j (by omega)).trans (ba.block j hj))⟩
structure Cel9 (W:World) (b:Addr) (a:Fv) (vn vk:Value):Prop where
 c0:W.cell? b=some (.int .i64 a.k)
 c1:W.cell? ⟨b.block,b.off+1,none⟩=some (.int .i64 a.f)
 c2:W.cell? ⟨b.block,b.off+2,none⟩=some (.int .i64 a.t)
 c3:W.cell? ⟨b.block,b.off+3,none⟩=some (.int .i64 a.l)
 c4:W.cell? ⟨b.block,b.off+4,none⟩=some (.int .i64 a.o)
 c5:W.cell? ⟨b.block,b.off+5,none⟩=some (.int .i64 a.m)
 c6:W.cell? ⟨b.block,b.off+6,none⟩=some (.float .f64 a.g)
 c7:W.cell? ⟨b.block,b.off+7,none⟩=some (.string a.x)
 c8:W.cell? ⟨b.block,b.off+8,none⟩=some vn
 c9:W.cell? ⟨b.block,b.off+9,none⟩=some vk
structure Gv where
 a:Fv
 p:Nat
 A:Nat→ByteArray
 q:Nat
 K:Nat→Int
def FormC (W:World) (b:Addr) (g:Gv):Prop:=∃ vn vk,Cel9 W b g.a vn vk∧RowV W vn g.p (fun i=>.string (g.A i))∧RowV W vk g.q (fun i=>.int .i64 (g.K i))
def RowF (W:World) (v:Value) (n:Nat) (F:Nat→Gv):Prop :=
 ∃ pa cap,v = .slice pa n cap∧(0 < n→∃ a:Addr,pa=some a∧n≤cap∧∀ i,i < n→FormC W (a.add (i*10)) (F i))
theorem Cel9.below {W W':World} {b:Addr} {a:Fv} {vn vk:Value} (h:Cel9 W b a vn vk) (hb:Below W.heap.size W W'):Cel9 W' b a vn vk:=by
 have hl:=lt_of_cell' h.c0
 have e:∀ j,W'.cell? ⟨b.block,j,none⟩=W.cell? ⟨b.block,j,none⟩:=fun j=>hb.cell (p:=⟨b.block,j,none⟩) hl
 exact ⟨(hb.cell hl).trans h.c0,(e _).trans h.c1,(e _).trans h.c2,(e _).trans h.c3,(e _).trans h.c4,(e _).trans h.c5,(e _).trans h.c6,(e _).trans h.c7,(e _).trans h.c8,(e _).trans h.c9⟩
theorem FormC.below {W W':World} {b:Addr} {g:Gv} (h:FormC W b g) (hb:Below W.heap.size W W'):FormC W' b g:=by
 obtain ⟨vn,vk,h1,h2,h3⟩:=h
 exact ⟨vn,vk,h1.below hb,h2.below hb,h3.below hb⟩
def smr (F:Nat→Gv):Nat→Nat
 | 0=>0
 | i+1=>smr F i+(F i).p+(F i).q
theorem sz_forms {v : Value} {n : Nat} {F : Nat → Gv} (w : World) (l : Int) (ha : RowF w v n F) (hn : (n : Int) < 140737488355328)
  (hF:∀ i,i < n→((F i).a.x.size:Int) < 140737488355328∧((F i).p:Int) < 140737488355328∧(∀ j,j < (F i).p→(((F i).A j).size:Int) < 140737488355328)∧((F i).q:Int) < 140737488355328) (hl0 : 0≤l) (hl:l≤1048576) :
  Calls Tryz.prog 57 #[v,.int .i64 l] w fun e w'=>∃ r:Int,e = .returned (.int .i64 r)∧(0≤r→(n:Int)+(smr F n:Int)≤l) ∧ -1≤r∧r≤1048576∧Below w.heap.size w w':=by
 obtain ⟨pa,ca,rfl,ha2⟩:=ha
 have HA:Hid ((0 < n→∃ a:Addr,pa=some a∧n≤ca∧∀ i,i < n→FormC w (a.add (i*10)) (F i))∧∀ i,i < n→((F i).a.x.size:Int) < 140737488355328∧((F i).p:Int) < 140737488355328∧(∀ j,j < (F i).p→(((F i).A j).size:Int) < 140737488355328)∧((F i).q:Int) < 140737488355328):=(⟨ha2,hF⟩:_∧_)
 clear ha2 hF
 go_enter Tryz.func57,Tryz.ntmps57
 rcases Int.lt_or_le (l - n) 0 with h | h
 ·clear HA
  go_wp2_with fail
  go_ret
  exact ⟨-1,rfl,fun f=>by omega,by omega,by omega,Below.refl _ _⟩
 ·have h':¬ (l - n < 0):=by omega
  go_wp2_with fail
  go_loopw [1,5] (fun s1 s5 wr=>∃ (i:Nat) (x:Int),s1 = .int .i64 x∧s5 = .int .i64 (i:Int)∧i≤n∧0≤x∧x≤1048576∧Hid (x+(n:Int)+(smr F i:Int)≤l∧Below w.heap.size w wr)) (fun _ s5 _=>n - (intOf s5).toNat)
  case atStart=>exact ⟨0,l - n,rfl,rfl,Nat.zero_le _,by omega,by omega,(⟨by show l - n+n+((0:Nat):Int)≤l;omega,Below.refl _ _⟩:_∧_)⟩
  case round =>
   obtain ⟨i,x,rfl,rfl,hin,hx0,hx1,HX⟩:=hrel
   rcases Nat.lt_or_ge i n with hi | hi
   ·have hA:=(show (0 < n→∃ a:Addr,pa=some a∧n≤ca∧∀ i,i < n→FormC w (a.add (i*10)) (F i))∧∀ i,i < n→((F i).a.x.size:Int) < 140737488355328∧((F i).p:Int) < 140737488355328∧(∀ j,j < (F i).p→(((F i).A j).size:Int) < 140737488355328)∧((F i).q:Int) < 140737488355328 from HA)
    have hX:=(show x+(n:Int)+(smr F i:Int)≤l∧Below w.heap.size w wr from HX)
    obtain ⟨a,rfl,hca,hra⟩:=hA.1 (by omega)
    obtain ⟨y1,y2,y3,y4⟩:=hA.2 i hi
    obtain ⟨vn,vk,hc,hrn,hrk⟩:=(hra i hi).below hX.2
    have hsz:=fun W' (hb:Below wr.heap.size wr W')=>sz_form W' x (a:=(F i).a) (hrn.below hb) (hrk.below hb) y1 y2 y3 y4 hx0 hx1
    have hsub:=szf_sub (F i).a.x (F i).p (F i).A (F i).q x
    have hle:=szf_le (F i).a.x (F i).p (F i).A (F i).q x hx0
    obtain ⟨r,hr⟩:∃ r,r=szf (F i).a.x (F i).p (F i).A (F i).q x:=⟨_,rfl⟩
    rw [← hr] at hsub hle
    have hm1 : -1≤r:=by
     rw [hr];unfold szf
     split
     ·omega
     ·split
      ·omega
      ·split <;> omega
    have HS:Hid (Calls Tryz.prog 84 #[fmv (F i).a vn vk,.int .i64 x] wr fun e w'=>e = .returned (.int .i64 r)∧Below wr.heap.size wr w'):=by
     rw [hr];exact hsz wr (Below.refl _ _)
    have HSUB:Hid ((0≤r→r+(n:Int)+(smr F (i+1):Int)≤l)∧Below w.heap.size w wr):=(⟨fun g=>by
     have:=hsub g
     have:=hX.1
     show r+(n:Int)+((smr F i+(F i).p+(F i).q:Nat):Int)≤l
     omega,hX.2⟩:_∧_)
    obtain ⟨d0,d1,d2,d3,d4,d5,d6,d7,d8,d9⟩:=hc
    have hiI:(i:Int) < (n:Int):=by omega
    clear hA hX HX hra y1 y2 y3 y4 hrn hrk hsz hsub hr HA hin
    go_wp2_with fail
    refine (show Calls Tryz.prog 84 #[fmv (F i).a vn vk,.int .i64 x] wr fun e w'=>e = .returned (.int .i64 r)∧Below wr.heap.size wr w' from HS).mono ?_
    rintro e w6 ⟨rfl,hb6⟩
    have hS:=(show (0≤r→r+(n:Int)+(smr F (i+1):Int)≤l)∧Below w.heap.size w wr from HSUB)
    have HB6:Hid ((0≤r→r+(n:Int)+(smr F (i+1):Int)≤l)∧Below w.heap.size w w6):=(⟨hS.1,hS.2.trans (hb6.mono hS.2.size)⟩:_∧_)
    clear HS HSUB hS hb6 d0 d1 d2 d3 d4 d5 d6 d7 d8 d9
    rcases Int.lt_or_le r 0 with hr0 | hr0
    ·go_wp2_with fail
     go_ret
     exact ⟨-1,rfl,fun f=>by omega,by omega,by omega,HB6.2⟩
    ·have hr0':¬ (r < 0):=by omega
     have hr1:r≤1048576:=by omega
     have hnI:(n:Int)≤1048576:=by omega
     clear hn hle h h' hm1 hl0 hl hx0 hx1
     go_wp2_with fail
     go_roundw
     case rel=>exact ⟨i+1,r,rfl,by go_num,by omega,hr0,hr1,(⟨HB6.1 hr0,HB6.2⟩:_∧_)⟩
     case measure=>simp [intOf];omega
   ·obtain rfl:i=n:=by omega
    clear HA
    go_wp2_with fail
    go_ret
    have hX:=(show x+(i:Int)+(smr F i:Int)≤l∧Below w.heap.size w wr from HX)
    exact ⟨x,rfl,fun _=>by have:=hX.1;omega,by omega,hx1,hX.2⟩
theorem eq_forms {va vb : Value} {n : Nat} {F : Nat → Gv} (w : World) (ha : RowF w va n F) (hb : RowF w vb n F) (hn : n ≤ 1048576) (hF : ∀ i, i < n → (F i).p ≤ 1048576 ∧ (F i).q ≤ 1048576 ∧ (F i).a.g < 18446744073709551616) :
  Calls Tryz.prog 64 #[va,vb] w fun e w'=>e = .returned (.bool true)∧Below w.heap.size w w':=by
 obtain ⟨qa,ca,rfl,ha2⟩:=ha
 obtain ⟨qb,cb,rfl,hb2⟩:=hb
 have HA:Hid ((0 < n→∃ a:Addr,qa=some a∧n≤ca∧∀ i,i < n→FormC w (a.add (i*10)) (F i))∧(0 < n→∃ a:Addr,qb=some a∧n≤cb∧∀ i,i < n→FormC w (a.add (i*10)) (F i))∧∀ i,i < n→(F i).p≤1048576∧(F i).q≤1048576∧(F i).a.g < 18446744073709551616):=(⟨ha2,hb2,hF⟩:_∧_∧_)
 have hnI:(n:Int)≤1048576:=by omega
 clear ha2 hb2 hn hF
 go_enter Tryz.func64,Tryz.ntmps64
 go_wp2_with fail
 go_loopw [5] (fun s5 wr=>∃ i:Nat,s5 = .int .i64 (i:Int)∧i≤n∧Hid (Below w.heap.size w wr)) (fun s5 _=>n - (intOf s5).toNat)
 case atStart=>exact ⟨0,rfl,Nat.zero_le _,Below.refl _ _⟩
 case round =>
  obtain ⟨i,rfl,hin,HB⟩:=hrel
  rcases Nat.lt_or_ge i n with hi | hi
  ·have hA:=(show (0 < n→∃ a:Addr,qa=some a∧n≤ca∧∀ i,i < n→FormC w (a.add (i*10)) (F i))∧(0 < n→∃ a:Addr,qb=some a∧n≤cb∧∀ i,i < n→FormC w (a.add (i*10)) (F i))∧∀ i,i < n→(F i).p≤1048576∧(F i).q≤1048576∧(F i).a.g < 18446744073709551616 from HA)
   obtain ⟨pa,rfl,hca,hra⟩:=hA.1 (by omega)
   obtain ⟨pb,rfl,hcb,hrb⟩:=hA.2.1 (by omega)
   obtain ⟨y1,y2,y3⟩:=hA.2.2 i hi
   have hiI:(i:Int) < (n:Int):=by omega
   obtain ⟨na,ka,⟨a0,a1,a2,a3,a4,a5,a6,a7,a8,a9⟩,hna,hka⟩:=(hra i hi).below HB
   obtain ⟨nb,kb,⟨b0,b1,b2,b3,b4,b5,b6,b7,b8,b9⟩,hnb,hkb⟩:=(hrb i hi).below HB
   have HQ:Hid (∀ W',Below wr.heap.size wr W'→Calls Tryz.prog 95 #[fmv (F i).a na ka,fmv (F i).a nb kb] W' fun e w'=>e = .returned (.bool true)∧Below W'.heap.size W' w'):=(fun W' hb=>eq_form W' (hna.below hb) (hnb.below hb) (hka.below hb) (hkb.below hb) y1 y2 y3:∀ W',_)
   have hla:=lt_of_cell' a0
   have hlb:=lt_of_cell' b0
   clear hA hra hrb HA hin y1 y2 y3 hna hka hnb hkb
   generalize F i=G at *
   obtain ⟨⟨xk,xf,xt,xl,xo,xm,xg,xx⟩,gp,gA,gq,gK⟩:=G
   unfold fmv at HQ
   dsimp only at a0 a1 a2 a3 a4 a5 a6 a7 b0 b1 b2 b3 b4 b5 b6 b7 HQ
   have heq:∀ W',W'.heap=wr.heap→W'.os=wr.os→W'.tape=wr.tape→W'.output=wr.output→Calls Tryz.prog 95 #[.agg #[.int .i64 xk,.int .i64 xf,.int .i64 xt,.int .i64 xl,.int .i64 xo,.int .i64 xm,.float .f64 xg,.string xx,na,ka],.agg #[.int .i64 xk,.int .i64 xf,.int .i64 xt,.int .i64 xl,.int .i64 xo,.int .i64 xm,.float .f64 xg,.string xx,nb,kb]] W' fun e w'=>e = .returned (.bool true)∧Below W'.heap.size W' w' :=
    fun W' h0 h1 h2 h3=>HQ W' ⟨h1,h2,h3,by rw [h0];exact Nat.le_refl _,fun k _=>by rw [h0]⟩
   have HEQ:Hid (∀ W',W'.heap=wr.heap→W'.os=wr.os→W'.tape=wr.tape→W'.output=wr.output→Calls Tryz.prog 95 #[.agg #[.int .i64 xk,.int .i64 xf,.int .i64 xt,.int .i64 xl,.int .i64 xo,.int .i64 xm,.float .f64 xg,.string xx,na,ka],.agg #[.int .i64 xk,.int .i64 xf,.int .i64 xt,.int .i64 xl,.int .i64 xo,.int .i64 xm,.float .f64 xg,.string xx,nb,kb]] W' fun e w'=>e = .returned (.bool true)∧Below W'.heap.size W' w'):=heq
   have hkeep:∀ (W0 W':World),Below W0.heap.size W0 W'→W0.heap=wr.heap→(W'.cell? (pa.add (i*10))=some (.int .i64 xk)∧W'.cell? ⟨(pa.add (i*10)).block,(pa.add (i*10)).off+1,none⟩=some (.int .i64 xf)∧W'.cell? ⟨(pa.add (i*10)).block,(pa.add (i*10)).off+2,none⟩=some (.int .i64 xt)∧W'.cell? ⟨(pa.add (i*10)).block,(pa.add (i*10)).off+3,none⟩=some (.int .i64 xl)∧W'.cell? ⟨(pa.add (i*10)).block,(pa.add (i*10)).off+4,none⟩=some (.int .i64 xo)∧W'.cell? ⟨(pa.add (i*10)).block,(pa.add (i*10)).off+5,none⟩=some (.int .i64 xm)∧W'.cell? ⟨(pa.add (i*10)).block,(pa.add (i*10)).off+6,none⟩=some (.float .f64 xg)∧W'.cell? ⟨(pa.add (i*10)).block,(pa.add (i*10)).off+7,none⟩=some (.string xx)∧W'.cell? ⟨(pa.add (i*10)).block,(pa.add (i*10)).off+8,none⟩=some (na)∧W'.cell? ⟨(pa.add (i*10)).block,(pa.add (i*10)).off+9,none⟩=some (ka)∧W'.cell? (pb.add (i*10))=some (.int .i64 xk)∧W'.cell? ⟨(pb.add (i*10)).block,(pb.add (i*10)).off+1,none⟩=some (.int .i64 xf)∧W'.cell? ⟨(pb.add (i*10)).block,(pb.add (i*10)).off+2,none⟩=some (.int .i64 xt)∧W'.cell? ⟨(pb.add (i*10)).block,(pb.add (i*10)).off+3,none⟩=some (.int .i64 xl)∧W'.cell? ⟨(pb.add (i*10)).block,(pb.add (i*10)).off+4,none⟩=some (.int .i64 xo)∧W'.cell? ⟨(pb.add (i*10)).block,(pb.add (i*10)).off+5,none⟩=some (.int .i64 xm)∧W'.cell? ⟨(pb.add (i*10)).block,(pb.add (i*10)).off+6,none⟩=some (.float .f64 xg)∧W'.cell? ⟨(pb.add (i*10)).block,(pb.add (i*10)).off+7,none⟩=some (.string xx)∧W'.cell? ⟨(pb.add (i*10)).block,(pb.add (i*10)).off+8,none⟩=some (nb)∧W'.cell? ⟨(pb.add (i*10)).block,(pb.add (i*10)).off+9,none⟩=some (kb)):=by
    intro W0 W' hb he
    have ea:∀ j,W'.cell? ⟨(pa.add (i*10)).block,j,none⟩=wr.cell? ⟨(pa.add (i*10)).block,j,none⟩:=fun j=>World.cell?_of_block (by rw [hb.block _ (by rw [he];exact hla),he])
    have eb:∀ j,W'.cell? ⟨(pb.add (i*10)).block,j,none⟩=wr.cell? ⟨(pb.add (i*10)).block,j,none⟩:=fun j=>World.cell?_of_block (by rw [hb.block _ (by rw [he];exact hlb),he])
    have ea0:W'.cell? (pa.add (i*10))=wr.cell? (pa.add (i*10)):=World.cell?_of_block (by rw [hb.block _ (by rw [he];exact hla),he])
    have eb0:W'.cell? (pb.add (i*10))=wr.cell? (pb.add (i*10)):=World.cell?_of_block (by rw [hb.block _ (by rw [he];exact hlb),he])
    simp only [ea,eb,ea0,eb0]
    exact ⟨a0,a1,a2,a3,a4,a5,a6,a7,a8,a9,b0,b1,b2,b3,b4,b5,b6,b7,b8,b9⟩
   have HKEEP:Hid (∀ (W0 W':World),Below W0.heap.size W0 W'→W0.heap=wr.heap→(W'.cell? (pa.add (i*10))=some (.int .i64 xk)∧W'.cell? ⟨(pa.add (i*10)).block,(pa.add (i*10)).off+1,none⟩=some (.int .i64 xf)∧W'.cell? ⟨(pa.add (i*10)).block,(pa.add (i*10)).off+2,none⟩=some (.int .i64 xt)∧W'.cell? ⟨(pa.add (i*10)).block,(pa.add (i*10)).off+3,none⟩=some (.int .i64 xl)∧W'.cell? ⟨(pa.add (i*10)).block,(pa.add (i*10)).off+4,none⟩=some (.int .i64 xo)∧W'.cell? ⟨(pa.add (i*10)).block,(pa.add (i*10)).off+5,none⟩=some (.int .i64 xm)∧W'.cell? ⟨(pa.add (i*10)).block,(pa.add (i*10)).off+6,none⟩=some (.float .f64 xg)∧W'.cell? ⟨(pa.add (i*10)).block,(pa.add (i*10)).off+7,none⟩=some (.string xx)∧W'.cell? ⟨(pa.add (i*10)).block,(pa.add (i*10)).off+8,none⟩=some (na)∧W'.cell? ⟨(pa.add (i*10)).block,(pa.add (i*10)).off+9,none⟩=some (ka)∧W'.cell? (pb.add (i*10))=some (.int .i64 xk)∧W'.cell? ⟨(pb.add (i*10)).block,(pb.add (i*10)).off+1,none⟩=some (.int .i64 xf)∧W'.cell? ⟨(pb.add (i*10)).block,(pb.add (i*10)).off+2,none⟩=some (.int .i64 xt)∧W'.cell? ⟨(pb.add (i*10)).block,(pb.add (i*10)).off+3,none⟩=some (.int .i64 xl)∧W'.cell? ⟨(pb.add (i*10)).block,(pb.add (i*10)).off+4,none⟩=some (.int .i64 xo)∧W'.cell? ⟨(pb.add (i*10)).block,(pb.add (i*10)).off+5,none⟩=some (.int .i64 xm)∧W'.cell? ⟨(pb.add (i*10)).block,(pb.add (i*10)).off+6,none⟩=some (.float .f64 xg)∧W'.cell? ⟨(pb.add (i*10)).block,(pb.add (i*10)).off+7,none⟩=some (.string xx)∧W'.cell? ⟨(pb.add (i*10)).block,(pb.add (i*10)).off+8,none⟩=some (nb)∧W'.cell? ⟨(pb.add (i*10)).block,(pb.add (i*10)).off+9,none⟩=some (kb))):=hkeep
   have HB2:Hid (∀ (W0 W':World),Below W0.heap.size W0 W'→(Below w.heap.size w wr→Below w.heap.size w W0)→Below w.heap.size w W'):=(fun W0 W' h1 h2=>(h2 HB).trans (h1.mono (h2 HB).size):∀ (W0 W':World),Below W0.heap.size W0 W'→(Below w.heap.size w wr→Below w.heap.size w W0)→Below w.heap.size w W')
   clear hkeep hla hlb HEQ HQ
   go_wp2_with fail
   go_region_held_law (fun W'=>W'.cell? (pa.add (i*10))=some (.int .i64 xk)∧W'.cell? ⟨(pa.add (i*10)).block,(pa.add (i*10)).off+1,none⟩=some (.int .i64 xf)∧W'.cell? ⟨(pa.add (i*10)).block,(pa.add (i*10)).off+2,none⟩=some (.int .i64 xt)∧W'.cell? ⟨(pa.add (i*10)).block,(pa.add (i*10)).off+3,none⟩=some (.int .i64 xl)∧W'.cell? ⟨(pa.add (i*10)).block,(pa.add (i*10)).off+4,none⟩=some (.int .i64 xo)∧W'.cell? ⟨(pa.add (i*10)).block,(pa.add (i*10)).off+5,none⟩=some (.int .i64 xm)∧W'.cell? ⟨(pa.add (i*10)).block,(pa.add (i*10)).off+6,none⟩=some (.float .f64 xg)∧W'.cell? ⟨(pa.add (i*10)).block,(pa.add (i*10)).off+7,none⟩=some (.string xx)∧W'.cell? ⟨(pa.add (i*10)).block,(pa.add (i*10)).off+8,none⟩=some (na)∧W'.cell? ⟨(pa.add (i*10)).block,(pa.add (i*10)).off+9,none⟩=some (ka)∧W'.cell? (pb.add (i*10))=some (.int .i64 xk)∧W'.cell? ⟨(pb.add (i*10)).block,(pb.add (i*10)).off+1,none⟩=some (.int .i64 xf)∧W'.cell? ⟨(pb.add (i*10)).block,(pb.add (i*10)).off+2,none⟩=some (.int .i64 xt)∧W'.cell? ⟨(pb.add (i*10)).block,(pb.add (i*10)).off+3,none⟩=some (.int .i64 xl)∧W'.cell? ⟨(pb.add (i*10)).block,(pb.add (i*10)).off+4,none⟩=some (.int .i64 xo)∧W'.cell? ⟨(pb.add (i*10)).block,(pb.add (i*10)).off+5,none⟩=some (.int .i64 xm)∧W'.cell? ⟨(pb.add (i*10)).block,(pb.add (i*10)).off+6,none⟩=some (.float .f64 xg)∧W'.cell? ⟨(pb.add (i*10)).block,(pb.add (i*10)).off+7,none⟩=some (.string xx)∧W'.cell? ⟨(pb.add (i*10)).block,(pb.add (i*10)).off+8,none⟩=some (nb)∧W'.cell? ⟨(pb.add (i*10)).block,(pb.add (i*10)).off+9,none⟩=some (kb)) (first | exact ⟨a0,a1,a2,a3,a4,a5,a6,a7,a8,a9,b0,b1,b2,b3,b4,b5,b6,b7,b8,b9⟩ | exact (show ∀ (W0 W':World),_ from HKEEP) _ _ hb5 rfl) ((go_at_call 95;refine (heq _ (by exact rfl) (by exact rfl) (by exact rfl) (by exact rfl)).mono ?_;rintro e w5 ⟨rfl,hb5⟩))
   all_goals
    have HB5:Hid (Below w.heap.size w w5):=(show ∀ (W0 W':World),Below W0.heap.size W0 W'→(Below w.heap.size w wr→Below w.heap.size w W0)→Below w.heap.size w W' from HB2) _ _ hb5 (fun h=>⟨h.os,h.tape,h.output,h.size,h.block⟩)
    clear HB HB2 HKEEP heq hb5 a0 a1 a2 a3 a4 a5 a6 a7 a8 a9 b0 b1 b2 b3 b4 b5 b6 b7 b8 b9
    go_wp2_with fail
    go_roundw
    case rel=>exact ⟨i+1,by go_num,by omega,HB5⟩
    case measure=>simp [intOf];omega
  ·obtain rfl:i=n:=by omega
   clear HA
   go_wp2_with fail
   go_ret
   exact ⟨rfl,HB⟩
def FormO (W:World) (g i:Nat) (f:Gv) (lo hi:Nat):Prop :=
 ∃ vn vk gn gk,Cel9 W ⟨g,i*10,none⟩ f.a vn vk∧OwnR W vn gn f.p (fun j=>.string (f.A j))∧OwnR W vk gk f.q (fun j=>.int .i64 (f.K j)) ∧
  (0 < f.p→lo≤gn∧gn < hi∧gn ≠ g)∧(0 < f.q→lo≤gk∧gk < hi∧gk ≠ g)∧(0 < f.p→0 < f.q→gn ≠ gk)
theorem FormO.kc {W W':World} {g i j:Nat} {f:Gv} {lo hi:Nat} {S:Nat→Prop} (h:FormO W g j f lo hi) (k:Kc g (i*10) (i*10+10) S W W') (hij:j ≠ i) (hS:∀ b,lo≤b→b < hi→¬ S b):FormO W' g j f lo hi:=by
 obtain ⟨vn,vk,gn,gk,hc,h1,h2,b1,b2,b3⟩:=h
 refine ⟨vn,vk,gn,gk,?_,h1.block ?_,h2.block ?_,b1,b2,b3⟩
 ·obtain ⟨c0,c1,c2,c3,c4,c5,c6,c7,c8,c9⟩:=hc
  have e:∀ c,c < 10→W'.cell? ⟨g,j*10+c,none⟩=W.cell? ⟨g,j*10+c,none⟩:=fun c hc=>k.cell _ (by omega)
  exact ⟨(e 0 (by omega)).trans c0,(e 1 (by omega)).trans c1,(e 2 (by omega)).trans c2,(e 3 (by omega)).trans c3,(e 4 (by omega)).trans c4,(e 5 (by omega)).trans c5,(e 6 (by omega)).trans c6,(e 7 (by omega)).trans c7,(e 8 (by omega)).trans c8,(e 9 (by omega)).trans c9⟩
 ·intro hp
  obtain ⟨q1,q2,q3⟩:=b1 hp
  exact k.block gn (lt_of_cell (h1.cell 0 hp)) q3 (hS gn q1 q2)
 ·intro hp
  obtain ⟨q1,q2,q3⟩:=b2 hp
  exact k.block gk (lt_of_cell (h2.cell 0 hp)) q3 (hS gk q1 q2)
structure OwnF (W:World) (v:Value) (g n:Nat) (F:Nat→Gv) (t:Nat→Nat) (lo hi:Nat):Prop where
 sl:∃ pa cap,v = .slice pa n cap∧(0 < n→pa=some ⟨g,0,none⟩∧n≤cap)
 frm:∀ i,i < n→FormO W g i (F i) (t i) (t (i+1))
 fz : 0 < n→∀ j,W.frozen? ⟨g,j,none⟩=false
 up:∀ i j,i≤j→j≤n→t i≤t j
 bg : 0 < n→lo≤g∧g < hi
 b0:lo≤t 0
 bn:t n≤hi
theorem OwnF.row {W:World} {v:Value} {g n:Nat} {F:Nat→Gv} {t:Nat→Nat} {lo hi:Nat} (h:OwnF W v g n F t lo hi):RowF W v n F:=by
 obtain ⟨pa,cap,h1,h2⟩:=h.sl
 refine ⟨pa,cap,h1,fun hn=>⟨⟨g,0,none⟩,(h2 hn).1,(h2 hn).2,fun i hi=>?_⟩⟩
 obtain ⟨vn,vk,gn,gk,hc,o1,o2,_⟩:=h.frm i hi
 rw [add0]
 exact ⟨vn,vk,hc,o1.row,o2.row⟩
theorem OwnF.lt {W:World} {v:Value} {g n:Nat} {F:Nat→Gv} {t:Nat→Nat} {lo hi:Nat} (h:OwnF W v g n F t lo hi) (hn : 0 < n):g < W.heap.size:=by
 obtain ⟨vn,vk,gn,gk,hc,o1,o2,_⟩:=h.frm 0 hn
 exact lt_of_cell hc.c0
theorem OwnF.keep {W W':World} {v:Value} {g n:Nat} {F:Nat→Gv} {t:Nat→Nat} {lo hi:Nat} (h:OwnF W v g n F t lo hi) (hb:∀ b,lo≤b→b < hi→b < W.heap.size→W'.heap[b]? = W.heap[b]?):OwnF W' v g n F t lo hi:=by
 refine ⟨h.sl,fun i hi=>?_,fun hn j=>?_,h.up,h.bg,h.b0,h.bn⟩
 ·obtain ⟨vn,vk,gn,gk,hc,h1,h2,b1,b2,b3⟩:=h.frm i hi
  have hn : 0 < n:=by omega
  have hgb:=hb g (h.bg hn).1 (h.bg hn).2 (h.lt hn)
  have u0:=h.up 0 i (by omega) (by omega)
  have u1:=h.up (i+1) n (by omega) (by omega)
  have u2:=h.b0
  have u3:=h.bn
  refine ⟨vn,vk,gn,gk,?_,h1.block ?_,h2.block ?_,b1,b2,b3⟩
  ·obtain ⟨c0,c1,c2,c3,c4,c5,c6,c7,c8,c9⟩:=hc
   have e:∀ c,W'.cell? ⟨g,c,none⟩=W.cell? ⟨g,c,none⟩:=fun c=>World.cell?_of_block hgb
   exact ⟨(e _).trans c0,(e _).trans c1,(e _).trans c2,(e _).trans c3,(e _).trans c4,(e _).trans c5,(e _).trans c6,(e _).trans c7,(e _).trans c8,(e _).trans c9⟩
  ·intro hp
   obtain ⟨q1,q2,q3⟩:=b1 hp
   exact hb gn (by omega) (by omega) (lt_of_cell (h1.cell 0 hp))
  ·intro hp
   obtain ⟨q1,q2,q3⟩:=b2 hp
   exact hb gk (by omega) (by omega) (lt_of_cell (h2.cell 0 hp))
 ·rw [World.frozen?_of_block (hb g (h.bg hn).1 (h.bg hn).2 (h.lt hn))];exact h.fz hn j
theorem smr_mono (F:Nat→Gv) {i n:Nat} (h:i≤n):smr F i≤smr F n:=by
  induction n with
  | zero => obtain rfl : i = 0 := by omega
            exact Nat.le_refl _
  | succ n ih =>
    by_cases e:i=n+1
    · subst e;exact Nat.le_refl _
    · have:=ih (by omega)
      show _≤smr F n+(F n).p+(F n).q
      omega
def fv0:Fv:=⟨0,0,0,0,0,0,0,⟨#[]⟩⟩
def z9:Value:=.agg #[.int .i64 0,.int .i64 0,.int .i64 0,.int .i64 0,.int .i64 0,.int .i64 0,.float .f64 0,.string ⟨#[]⟩,.slice none 0 0,.slice none 0 0]
theorem z9c:z9.cells = #[.int .i64 0,.int .i64 0,.int .i64 0,.int .i64 0,.int .i64 0,.int .i64 0,.float .f64 0,.string ⟨#[]⟩,.slice none 0 0,.slice none 0 0]:=by rfl
theorem made9 (w:World) (e n:Nat) (j c:Nat) (hj:j < n) (hc:c < 10):(w.alloc (.cells (madeCells z9.cells (n*10)) e)).cell? ⟨w.heap.size,j*10+c,none⟩=z9.cells[c]?:=by
 have hs:z9.cells.size=10:=by rw [z9c];rfl
 have hb:j*10+c < n*10:=by omega
 have hg:(madeCells z9.cells (n*10))[j*10+c]? = z9.cells[c]?:=by
  have hm:(j*10+c) % 10=c:=by omega
  simp [madeCells,hs,hb,hm]
  rw [getElem?_pos z9.cells c (by omega),getElem!_pos z9.cells c (by omega)]
 rw [World.cell?_alloc_at _ _ _ _ rfl]
 exact hg
def s9 (W:World) (g o:Nat) (a:Fv) (vn vk:Value):World :=
 (((((((((W.setCell ⟨g,o,none⟩ (.int .i64 a.k)).setCell ⟨g,o+1,none⟩ (.int .i64 a.f)).setCell ⟨g,o+2,none⟩ (.int .i64 a.t)).setCell ⟨g,o+3,none⟩ (.int .i64 a.l)).setCell ⟨g,o+4,none⟩ (.int .i64 a.o)).setCell ⟨g,o+5,none⟩ (.int .i64 a.m)).setCell ⟨g,o+6,none⟩ (.float .f64 a.g)).setCell ⟨g,o+7,none⟩ (.string a.x)).setCell ⟨g,o+8,none⟩ vn).setCell ⟨g,o+9,none⟩ vk
theorem s9_kc (W:World) (g i:Nat) (a:Fv) (vn vk:Value) (S:Nat→Prop):Kc g (i*10) (i*10+10) S W (s9 W g (i*10) a vn vk) :=
 ((((((((((Kc.refl g (i*10) (i*10+10) S W).set (i*10) (by omega) (by omega) _).set (i*10+1) (by omega) (by omega) _).set (i*10+2) (by omega) (by omega) _).set (i*10+3) (by omega) (by omega) _).set (i*10+4) (by omega) (by omega) _).set (i*10+5) (by omega) (by omega) _).set (i*10+6) (by omega) (by omega) _).set (i*10+7) (by omega) (by omega) _).set (i*10+8) (by omega) (by omega) _).set (i*10+9) (by omega) (by omega) _
theorem s9_size (W:World) (g o:Nat) (a:Fv) (vn vk:Value):(s9 W g o a vn vk).heap.size=W.heap.size:=by
 unfold s9
 simp
theorem s9_cel {W:World} {g o:Nat} {b:Fv} {un uk:Value} (h:Cel9 W ⟨g,o,none⟩ b un uk) (a:Fv) (vn vk:Value):Cel9 (s9 W g o a vn vk) ⟨g,o,none⟩ a vn vk:=by
 obtain ⟨h0,h1,h2,h3,h4,h5,h6,h7,h8,h9⟩:=h
 dsimp only at h1 h2 h3 h4 h5 h6 h7 h8 h9
 unfold s9
 refine ⟨?_,?_,?_,?_,?_,?_,?_,?_,?_,?_⟩ <;> try dsimp only
 ·rw [set_ne _ _ _ _ _ (by omega),set_ne _ _ _ _ _ (by omega),set_ne _ _ _ _ _ (by omega),set_ne _ _ _ _ _ (by omega),set_ne _ _ _ _ _ (by omega),set_ne _ _ _ _ _ (by omega),set_ne _ _ _ _ _ (by omega),set_ne _ _ _ _ _ (by omega),set_ne _ _ _ _ _ (by omega)]
  exact set_eq _ _ _ _ _ h0
 ·rw [set_ne _ _ _ _ _ (by omega),set_ne _ _ _ _ _ (by omega),set_ne _ _ _ _ _ (by omega),set_ne _ _ _ _ _ (by omega),set_ne _ _ _ _ _ (by omega),set_ne _ _ _ _ _ (by omega),set_ne _ _ _ _ _ (by omega),set_ne _ _ _ _ _ (by omega)]
  exact set_eq _ _ _ _ _ (by rw [set_ne _ _ _ _ _ (by omega)];exact h1)
 ·rw [set_ne _ _ _ _ _ (by omega),set_ne _ _ _ _ _ (by omega),set_ne _ _ _ _ _ (by omega),set_ne _ _ _ _ _ (by omega),set_ne _ _ _ _ _ (by omega),set_ne _ _ _ _ _ (by omega),set_ne _ _ _ _ _ (by omega)]
  exact set_eq _ _ _ _ _ (by rw [set_ne _ _ _ _ _ (by omega),set_ne _ _ _ _ _ (by omega)];exact h2)
 ·rw [set_ne _ _ _ _ _ (by omega),set_ne _ _ _ _ _ (by omega),set_ne _ _ _ _ _ (by omega),set_ne _ _ _ _ _ (by omega),set_ne _ _ _ _ _ (by omega),set_ne _ _ _ _ _ (by omega)]
  exact set_eq _ _ _ _ _ (by rw [set_ne _ _ _ _ _ (by omega),set_ne _ _ _ _ _ (by omega),set_ne _ _ _ _ _ (by omega)];exact h3)
 ·rw [set_ne _ _ _ _ _ (by omega),set_ne _ _ _ _ _ (by omega),set_ne _ _ _ _ _ (by omega),set_ne _ _ _ _ _ (by omega),set_ne _ _ _ _ _ (by omega)]
  exact set_eq _ _ _ _ _ (by rw [set_ne _ _ _ _ _ (by omega),set_ne _ _ _ _ _ (by omega),set_ne _ _ _ _ _ (by omega),set_ne _ _ _ _ _ (by omega)];exact h4)
 ·rw [set_ne _ _ _ _ _ (by omega),set_ne _ _ _ _ _ (by omega),set_ne _ _ _ _ _ (by omega),set_ne _ _ _ _ _ (by omega)]
  exact set_eq _ _ _ _ _ (by rw [set_ne _ _ _ _ _ (by omega),set_ne _ _ _ _ _ (by omega),set_ne _ _ _ _ _ (by omega),set_ne _ _ _ _ _ (by omega),set_ne _ _ _ _ _ (by omega)];exact h5)
 ·rw [set_ne _ _ _ _ _ (by omega),set_ne _ _ _ _ _ (by omega),set_ne _ _ _ _ _ (by omega)]
  exact set_eq _ _ _ _ _ (by rw [set_ne _ _ _ _ _ (by omega),set_ne _ _ _ _ _ (by omega),set_ne _ _ _ _ _ (by omega),set_ne _ _ _ _ _ (by omega),set_ne _ _ _ _ _ (by omega),set_ne _ _ _ _ _ (by omega)];exact h6)
 ·rw [set_ne _ _ _ _ _ (by omega),set_ne _ _ _ _ _ (by omega)]
  exact set_eq _ _ _ _ _ (by rw [set_ne _ _ _ _ _ (by omega),set_ne _ _ _ _ _ (by omega),set_ne _ _ _ _ _ (by omega),set_ne _ _ _ _ _ (by omega),set_ne _ _ _ _ _ (by omega),set_ne _ _ _ _ _ (by omega),set_ne _ _ _ _ _ (by omega)];exact h7)
 ·rw [set_ne _ _ _ _ _ (by omega)]
  exact set_eq _ _ _ _ _ (by rw [set_ne _ _ _ _ _ (by omega),set_ne _ _ _ _ _ (by omega),set_ne _ _ _ _ _ (by omega),set_ne _ _ _ _ _ (by omega),set_ne _ _ _ _ _ (by omega),set_ne _ _ _ _ _ (by omega),set_ne _ _ _ _ _ (by omega),set_ne _ _ _ _ _ (by omega)];exact h8)
 ·exact set_eq _ _ _ _ _ (by rw [set_ne _ _ _ _ _ (by omega),set_ne _ _ _ _ _ (by omega),set_ne _ _ _ _ _ (by omega),set_ne _ _ _ _ _ (by omega),set_ne _ _ _ _ _ (by omega),set_ne _ _ _ _ _ (by omega),set_ne _ _ _ _ _ (by omega),set_ne _ _ _ _ _ (by omega),set_ne _ _ _ _ _ (by omega)];exact h9)
structure ToR (w1:World) (g n:Nat) (F:Nat→Gv) (i:Nat) (W:World) (t:Nat→Nat):Prop where
 kq:Kq (fun k=>k=g) w1 W
 frm:∀ j,j < i→FormO W g j (F j) (t j) (t (j+1))
 rest:∀ j,i≤j→j < n→Cel9 W ⟨g,j*10,none⟩ fv0 (.slice none 0 0) (.slice none 0 0)
 fz:∀ j,W.frozen? ⟨g,j,none⟩=false
 up:∀ a b,a≤b→b≤i→t a≤t b
 b0:g < t 0
 bi:t i≤W.heap.size
 gl:g < w1.heap.size
theorem FormO.mono {W:World} {g i:Nat} {f:Gv} {lo hi lo' hi':Nat} (h:FormO W g i f lo hi) (h1:lo'≤lo) (h2:hi≤hi'):FormO W g i f lo' hi':=by
 obtain ⟨vn,vk,gn,gk,hc,o1,o2,b1,b2,b3⟩:=h
 exact ⟨vn,vk,gn,gk,hc,o1,o2,fun hp=>by have:=b1 hp;omega,fun hp=>by have:=b2 hp;omega,b3⟩
theorem ToR.below {w1 W W':World} {g n i:Nat} {F:Nat→Gv} {t:Nat→Nat} (h:ToR w1 g n F i W t) (hb:Below W.heap.size W W'):ToR w1 g n F i W' t:=by
 have hgl:g < W.heap.size:=Nat.lt_of_lt_of_le h.gl h.kq.size
 have hk:Kc g (i*10) (i*10+10) (fun _=>False) W W':=(Kc.refl _ _ _ _ W).below hb hgl
 have hgb:=hb.block g hgl
 refine ⟨h.kq.trans (Kq.of_below hb (Nat.le_refl _)),fun j hj=>(h.frm j hj).kc hk (by omega) (fun _ _ _ f=>f),fun j h1 h2=>(h.rest j h1 h2).below hb,fun j=>by rw [World.frozen?_of_block hgb];exact h.fz j,h.up,h.b0,Nat.le_trans h.bi hb.size,h.gl⟩
theorem ToR.step {w1 W w6 : World} {g n i : Nat} {F : Nat → Gv} {t : Nat → Nat} (h : ToR w1 g n F i W t) (hi : i < n) (hb : Below W.heap.size W w6) {vn vk : Value} {gn gk : Nat}
  (o1:OwnR w6 vn gn (F i).p (fun j=>.string ((F i).A j))) (o2:OwnR w6 vk gk (F i).q (fun j=>.int .i64 ((F i).K j))) (h1:W.heap.size≤gn) (h2:gn < gk) (h3:gk < w6.heap.size) :
  Cel9 w6 ⟨g,i*10,none⟩ fv0 (.slice none 0 0) (.slice none 0 0)∧(∀ j,w6.frozen? ⟨g,j,none⟩=false)∧ToR w1 g n F (i+1) (s9 w6 g (i*10) (F i).a vn vk) (fun j=>if j≤i then t j else w6.heap.size):=by
 have h6:=h.below hb
 have hc:=h6.rest i (Nat.le_refl _) hi
 have hgl:g < W.heap.size:=Nat.lt_of_lt_of_le h.gl h.kq.size
 have hg6:g < w6.heap.size:=Nat.lt_of_lt_of_le hgl hb.size
 have hk:=s9_kc w6 g i (F i).a vn vk (fun _=>False)
 have hb6:=h6.bi
 have hbi:=h.bi
 have hws:=hb.size
 have blk:∀ b,b < w6.heap.size→b ≠ g→(s9 w6 g (i*10) (F i).a vn vk).heap[b]? = w6.heap[b]?:=fun b h1 h2=>hk.block b h1 h2 (fun f=>f)
 refine ⟨hc,h6.fz,⟨⟨hk.os.trans h6.kq.os,hk.tape.trans h6.kq.tape,hk.output.trans h6.kq.output,Nat.le_trans h6.kq.size hk.size,fun b hb1 hb2=>(blk b (Nat.lt_of_lt_of_le hb1 h6.kq.size) hb2).trans (h6.kq.block b hb1 hb2)⟩,?_,?_,fun j=>(hk.fz j).trans (h6.fz j),?_,?_,?_,h.gl⟩⟩
 ·intro j hj
  by_cases e:j=i
  ·subst e
   rw [if_pos (Nat.le_refl _),if_neg (by omega)]
   refine ⟨vn,vk,gn,gk,s9_cel hc _ _ _,o1.block (fun hp=>blk gn (by omega) (by omega)),o2.block (fun hp=>blk gk (by omega) (by omega)),fun hp=>⟨by omega,by omega,by omega⟩,fun hp=>⟨by omega,by omega,by omega⟩,fun _ _=>by omega⟩
  ·rw [if_pos (by omega),if_pos (by omega)]
   exact (h6.frm j (by omega)).kc hk (by omega) (fun _ _ _ f=>f)
 ·intro j h1 h2
  obtain ⟨c0,c1,c2,c3,c4,c5,c6,c7,c8,c9⟩:=h6.rest j (by omega) h2
  have e:∀ c,c < 10→(s9 w6 g (i*10) (F i).a vn vk).cell? ⟨g,j*10+c,none⟩=w6.cell? ⟨g,j*10+c,none⟩:=fun c hc=>hk.cell _ (by omega)
  exact ⟨(e 0 (by omega)).trans c0,(e 1 (by omega)).trans c1,(e 2 (by omega)).trans c2,(e 3 (by omega)).trans c3,(e 4 (by omega)).trans c4,(e 5 (by omega)).trans c5,(e 6 (by omega)).trans c6,(e 7 (by omega)).trans c7,(e 8 (by omega)).trans c8,(e 9 (by omega)).trans c9⟩
 ·intro a b hab hbi2
  show (if a≤i then t a else w6.heap.size)≤(if b≤i then t b else w6.heap.size)
  by_cases e:b≤i
  ·rw [if_pos e,if_pos (by omega)];exact h.up a b hab e
  ·rw [if_neg e]
   by_cases e2:a≤i
   ·rw [if_pos e2];have:=h.up a i e2 (Nat.le_refl _);omega
   ·rw [if_neg e2];exact Nat.le_refl _
 ·show g < (if 0≤i then t 0 else w6.heap.size)
  rw [if_pos (Nat.zero_le _)];exact h.b0
 ·show (if i+1≤i then t (i+1) else w6.heap.size)≤_
  rw [if_neg (by omega),s9_size];exact Nat.le_refl _
theorem to_forms {va : Value} {n : Nat} {F : Nat → Gv} (w : World) (ha : RowF w va n F) (hn : n + smr F n ≤ 1048576) :
  Calls Tryz.prog 60 #[va] w fun e w'=>∃ v g t,e = .returned v∧OwnF w' v g n F t w.heap.size w'.heap.size∧Below w.heap.size w w':=by
 obtain ⟨pa,ca,rfl,ha2⟩:=ha
 have hnI:(n:Int)≤1048576:=by omega
 have hmk:=run_make (P:=Tryz.prog) w 54 102 Tryz.t102 z9 Tryz.underlying54 (by kernel_rfl) (by kernel_rfl) .i64 .i64 (n:Int) (n:Int) (by omega) (Int.le_refl _) (by show (120:Int)*(n:Int)≤_;omega) (by omega)
 rw [Int.toNat_natCast] at hmk
 obtain ⟨w1,hw1⟩:∃ w1,w1=w.alloc (.cells (madeCells z9.cells (n*Tryz.t102.size)) 102):=⟨_,rfl⟩
 rw [← hw1] at hmk
 have c1:∀ j c,j < n→c < 10→w1.cell? ⟨w.heap.size,j*10+c,none⟩=z9.cells[c]?:=by intro j c hj hc;rw [hw1];exact made9 w 102 n j c hj hc
 have f1:∀ j,w1.frozen? ⟨w.heap.size,j,none⟩=false:=by intro j;rw [hw1];exact made_fz _ _ _ _
 have b1:Below w.heap.size w w1:=by rw [hw1];exact (Below.refl _ w).alloc (Nat.le_refl _) _
 have l1:w.heap.size < w1.heap.size:=by rw [hw1];simp
 have HI0:Hid (ToR w1 w.heap.size n F 0 w1 (fun _=>w1.heap.size)):=(⟨Kq.refl _ _,fun i hi=>by omega,fun j _ hj=>⟨c1 j 0 hj (by omega),c1 j 1 hj (by omega),c1 j 2 hj (by omega),c1 j 3 hj (by omega),c1 j 4 hj (by omega),c1 j 5 hj (by omega),c1 j 6 hj (by omega),c1 j 7 hj (by omega),c1 j 8 hj (by omega),c1 j 9 hj (by omega)⟩,f1,fun _ _ _ _=>Nat.le_refl _,l1,Nat.le_refl _,l1⟩:ToR w1 w.heap.size n F 0 w1 (fun _=>w1.heap.size))
 have HA:Hid ((0 < n→∃ a:Addr,pa=some a∧n≤ca∧∀ i,i < n→FormC w (a.add (i*10)) (F i))∧Below w.heap.size w w1∧n+smr F n≤1048576):=(⟨ha2,b1,hn⟩:_∧_∧_)
 clear ha2 b1 c1 f1 hw1 hn l1
 obtain ⟨G,hG⟩:∃ G,G=w.heap.size:=⟨_,rfl⟩
 rw [← hG] at hmk HI0 ⊢
 have HG:Hid (G=w.heap.size):=hG
 clear hG
 go_enter Tryz.func60,Tryz.ntmps60
 go_wp2_with fail
 go_loopw [4] (fun s4 wr=>∃ i:Nat,s4 = .int .i64 (i:Int)∧i≤n∧Hid (∃ t,ToR w1 G n F i wr t)) (fun s4 _=>n - (intOf s4).toNat)
 case atStart=>exact ⟨0,rfl,Nat.zero_le _,(⟨_,HI0⟩:∃ t,ToR w1 G n F 0 w1 t)⟩
 case round =>
  clear HI0 hmk
  obtain ⟨i,rfl,hin,HI⟩:=hrel
  obtain ⟨t,hI⟩:=(show ∃ t,ToR w1 G n F i wr t from HI)
  have hA:=(show (0 < n→∃ a:Addr,pa=some a∧n≤ca∧∀ i,i < n→FormC w (a.add (i*10)) (F i))∧Below w.heap.size w w1∧n+smr F n≤1048576 from HA)
  have hBW:Below w.heap.size w wr:=by
   have hG:=(show G=w.heap.size from HG)
   exact ⟨hI.kq.os.trans hA.2.1.os,hI.kq.tape.trans hA.2.1.tape,hI.kq.output.trans hA.2.1.output,Nat.le_trans hA.2.1.size hI.kq.size,fun b hb=>(hI.kq.block b (Nat.lt_of_lt_of_le hb hA.2.1.size) (by omega)).trans (hA.2.1.block b hb)⟩
  rcases Nat.lt_or_ge i n with hi | hi
  ·have hiI:(i:Int) < (n:Int):=by omega
   obtain ⟨a,rfl,hca,hra⟩:=hA.1 (by omega)
   obtain ⟨un,uk,hc,hrn,hrk⟩:=(hra i hi).below hBW
   have hsu:=smr_mono F (show i+1≤n from hi)
   have hss:smr F (i+1)=smr F i+(F i).p+(F i).q:=rfl
   have HT:Hid (Calls Tryz.prog 88 #[fmv (F i).a un uk] wr fun e w'=>∃ vn vk gn gk,e = .returned (fmv (F i).a vn vk)∧OwnR w' vn gn (F i).p (fun j=>.string ((F i).A j))∧OwnR w' vk gk (F i).q (fun j=>.int .i64 ((F i).K j))∧wr.heap.size≤gn∧gn < gk∧gk < w'.heap.size∧Below wr.heap.size wr w'):=to_form wr hrn hrk (by omega) (by omega)
   have HS:Hid (∀ w6 vn vk gn gk,Below wr.heap.size wr w6→OwnR w6 vn gn (F i).p (fun j=>.string ((F i).A j))→OwnR w6 vk gk (F i).q (fun j=>.int .i64 ((F i).K j))→wr.heap.size≤gn→gn < gk→gk < w6.heap.size→Cel9 w6 ⟨G,i*10,none⟩ fv0 (.slice none 0 0) (.slice none 0 0)∧(∀ j,w6.frozen? ⟨G,j,none⟩=false)∧∃ t,ToR w1 G n F (i+1) (s9 w6 G (i*10) (F i).a vn vk) t):=(fun w6 vn vk gn gk hb o1 o2 l1 l2 l3=>by
    obtain ⟨q1,q2,q3⟩:=hI.step hi hb o1 o2 l1 l2 l3
    exact ⟨q1,q2,_,q3⟩:∀ w6 vn vk gn gk,_)
   obtain ⟨d0,d1,d2,d3,d4,d5,d6,d7,d8,d9⟩:=hc
   clear hA HA hI HI hra hrn hrk hsu hss hin HG hBW
   go_wp2_with fail
   refine (show Calls Tryz.prog 88 #[fmv (F i).a un uk] wr fun e w'=>∃ vn vk gn gk,_ from HT).mono ?_
   rintro e w6 ⟨vn,vk,gn,gk,rfl,o1,o2,l1,l2,l3,hb6⟩
   obtain ⟨hc,hf,hT⟩:=(show ∀ w6 vn vk gn gk,_ from HS) w6 vn vk gn gk hb6 o1 o2 l1 l2 l3
   obtain ⟨pn,cn,rfl,_⟩:=o1.sl
   obtain ⟨pk,ck,rfl,_⟩:=o2.sl
   have HTT:Hid (∃ t,ToR w1 G n F (i+1) (s9 w6 G (i*10) (F i).a (.slice pn (F i).p cn) (.slice pk (F i).q ck)) t):=hT
   obtain ⟨h0,h1,h2,h3,h4,h5,h6,h7,h8,h9⟩:=hc
   dsimp only [fv0] at h0 h1 h2 h3 h4 h5 h6 h7 h8 h9
   have e0:=hf (i*10)
   have e1:=hf (i*10+1)
   have e2:=hf (i*10+2)
   have e3:=hf (i*10+3)
   have e4:=hf (i*10+4)
   have e5:=hf (i*10+5)
   have e6:=hf (i*10+6)
   have e7:=hf (i*10+7)
   have e8:=hf (i*10+8)
   have e9:=hf (i*10+9)
   have hst:∀ (a:Addr) (n:Nat) (m:Mode) (w:World),(store a (.float .f64 n) m).run Tryz.prog w=stored Tryz.prog w a (.float .f64 n) m:=fun a n m w=>run_store _ _ _ _ _ rfl
   clear hf hT HS HT o1 o2 l1 l2 l3 hb6 d0 d1 d2 d3 d4 d5 d6 d7 d8 d9
   unfold fmv
   go_wp2_with fail
   go_roundw
   case rel=>exact ⟨i+1,by go_num,by omega,HTT⟩
   case measure=>simp [intOf];omega
  ·obtain rfl:i=n:=by omega
   have HE:Hid ((∃ t,ToR w1 G i F i wr t)∧Below w.heap.size w wr∧G=w.heap.size):=(⟨⟨_,hI⟩,hBW,HG⟩:_∧_∧_)
   clear HI hI hA HA HG hBW
   go_wp2_with fail
   go_ret
   obtain ⟨⟨t',hE⟩,hB,hG⟩:=(show (∃ t,ToR w1 G i F i wr t)∧Below w.heap.size w wr∧G=w.heap.size from HE)
   have hgl:=Nat.lt_of_lt_of_le hE.gl hE.kq.size
   have hb0:=hE.b0
   exact ⟨_,G,t',rfl,⟨⟨_,_,rfl,fun _=>⟨rfl,Nat.le_refl _⟩⟩,hE.frm,fun _=>hE.fz,hE.up,fun _=>⟨by omega,hgl⟩,by omega,hE.bi⟩,hG ▸ hB⟩
theorem RowF.below {W W':World} {v:Value} {n:Nat} {F:Nat→Gv} (h:RowF W v n F) (hb:Below W.heap.size W W'):RowF W' v n F:=by
 obtain ⟨pa,cap,h1,h2⟩:=h
 refine ⟨pa,cap,h1,fun hn=>?_⟩
 obtain ⟨a,e1,e2,e3⟩:=h2 hn
 exact ⟨a,e1,e2,fun i hi=>(e3 i hi).below hb⟩
theorem sz_sheet {v : Value} {n : Nat} {F : Nat → Gv} (w : World) (ha : RowF w v n F) (hn : (n : Int) < 140737488355328)
  (hF:∀ i,i < n→((F i).a.x.size:Int) < 140737488355328∧((F i).p:Int) < 140737488355328∧(∀ j,j < (F i).p→(((F i).A j).size:Int) < 140737488355328)∧((F i).q:Int) < 140737488355328) :
  Calls Tryz.prog 27 #[.agg #[v],.int .i64 1048576] w fun e w'=>∃ r:Int,e = .returned (.int .i64 r)∧(0≤r→(n:Int)+(smr F n:Int)≤1048576) ∧ -1≤r∧r≤1048576∧Below w.heap.size w w':=by
 have hs:Hid (∀ o:Obj,Calls Tryz.prog 57 #[v,.int .i64 1048576] (w.alloc o) fun e w'=>∃ r:Int,e = .returned (.int .i64 r)∧(0≤r→(n:Int)+(smr F n:Int)≤1048576) ∧ -1≤r∧r≤1048576∧Below (w.alloc o).heap.size (w.alloc o) w'):=(fun o=>sz_forms (w.alloc o) 1048576 (ha.below (bel1 _ _)) hn hF (by omega) (by omega):∀ o:Obj,_)
 obtain ⟨pa,ca,rfl,_⟩:=ha
 clear hn hF
 go_enter Tryz.func27,Tryz.ntmps27
 go_wp2_with fail
 refine (hs _).mono ?_
 rintro e w1 ⟨r,rfl,h1,h2,h3,hb⟩
 have HB:Hid ((0≤r→(n:Int)+(smr F n:Int)≤1048576)∧Below w.heap.size w w1):=(⟨h1,(bel1 w _).trans (hb.mono (by simp))⟩:_∧_)
 clear hs h1 hb
 rcases Int.lt_or_le r 0 with h | h
 ·go_wp2_with fail
  go_ret
  exact ⟨-1,rfl,fun f=>by omega,by omega,by omega,HB.2⟩
 ·have h':¬ r < 0:=by omega
  go_wp2_with fail
  go_ret
  exact ⟨r,rfl,HB.1,h2,h3,HB.2⟩
theorem to_sheet {va : Value} {n : Nat} {F : Nat → Gv} (w : World) (ha : RowF w va n F) (hn : n + smr F n ≤ 1048576) :
  Calls Tryz.prog 29 #[.agg #[va]] w fun e w'=>∃ v g t,e = .returned (.agg #[v])∧OwnF w' v g n F t w.heap.size w'.heap.size∧Below w.heap.size w w':=by
 have hs:Hid (∀ a b c:Obj,Calls Tryz.prog 60 #[va] (((w.alloc a).alloc b).alloc c) fun e w'=>∃ v g t,e = .returned v∧OwnF w' v g n F t (((w.alloc a).alloc b).alloc c).heap.size w'.heap.size∧Below (((w.alloc a).alloc b).alloc c).heap.size (((w.alloc a).alloc b).alloc c) w'):=(fun a b c=>to_forms _ (ha.below (bel3 _ _ _ _)) hn:∀ a b c:Obj,_)
 obtain ⟨pa,ca,rfl,_⟩:=ha
 clear hn
 go_enter Tryz.func29,Tryz.ntmps29
 go_wp2_with fail
 refine (hs _ _ _).mono ?_
 rintro e w1 ⟨v,g,t,rfl,ho,hb⟩
 obtain ⟨w3,hw3⟩:∃ w3,w3=((w.alloc (.cells #[.slice pa n ca] 49)).alloc (.cells #[.slice none 0 0] 56)).alloc (.cells #[.slice none 0 0] 56):=⟨_,rfl⟩
 obtain ⟨r0,r1,r2,s1,s2,z3⟩:=al3 w _ _ _ _ _ _ w3 hw3
 have b3:Below w.heap.size w w3:=by rw [hw3];exact bel3 _ _ _ _
 rw [← hw3] at ho hb
 have hz:=hb.size
 have c1:w1.cell? ⟨w.heap.size+1,0,none⟩=some (.slice none 0 0):=(hb.cell (p:=⟨w.heap.size+1,0,none⟩) (by show w.heap.size+1 < _;omega)).trans (r1 0)
 have f1:w1.frozen? ⟨w.heap.size+1,0,none⟩=false:=(hb.frozen (p:=⟨w.heap.size+1,0,none⟩) (by show w.heap.size+1 < _;omega)).trans (s1 0)
 have c2:w1.cell? ⟨w.heap.size+1+1,0,none⟩=some (.slice none 0 0):=(hb.cell (p:=⟨w.heap.size+1+1,0,none⟩) (by show w.heap.size+1+1 < _;omega)).trans (r2 0)
 have f2:w1.frozen? ⟨w.heap.size+1+1,0,none⟩=false:=(hb.frozen (p:=⟨w.heap.size+1+1,0,none⟩) (by show w.heap.size+1+1 < _;omega)).trans (s2 0)
 obtain ⟨pv,cv,rfl,_⟩:=ho.sl
 have HF:Hid (OwnF ((w1.setCell ⟨w.heap.size+1+1,0,none⟩ (.slice pv n cv)).setCell ⟨w.heap.size+1,0,none⟩ (.slice pv n cv)) (.slice pv n cv) g n F t w.heap.size w1.heap.size∧Below w.heap.size w ((w1.setCell ⟨w.heap.size+1+1,0,none⟩ (.slice pv n cv)).setCell ⟨w.heap.size+1,0,none⟩ (.slice pv n cv))):=by
  show _∧_
  have hk:=ho.keep (W':=(w1.setCell ⟨w.heap.size+1+1,0,none⟩ (.slice pv n cv)).setCell ⟨w.heap.size+1,0,none⟩ (.slice pv n cv)) (fun b h1 h2 h3=>by
   rw [Below.heap_setCell _ _ _ _ (show b ≠ w.heap.size+1 by omega),Below.heap_setCell _ _ _ _ (show b ≠ w.heap.size+1+1 by omega)])
  have k1:=hk.bg
  have k2:=hk.b0
  exact ⟨⟨hk.sl,hk.frm,hk.fz,hk.up,fun hn=>by have:=k1 hn;omega,by omega,hk.bn⟩,((b3.trans (hb.mono (by omega))).setCell (by show w.heap.size≤w.heap.size+1+1;omega) _).setCell (by show w.heap.size≤w.heap.size+1;omega) _⟩
 have e0:((w1.setCell ⟨w.heap.size+1+1,0,none⟩ (.slice pv n cv)).setCell ⟨w.heap.size+1,0,none⟩ (.slice pv n cv)).cell? ⟨w.heap.size+1,0,none⟩=some (.slice pv n cv):=set_eq _ _ _ _ _ ((World.cell?_setCell_other _ _ _ _ (fun e=>by have:=congrArg Addr.block e;simp at this)).trans c1)
 have E0:Hid (((w1.setCell ⟨w.heap.size+1+1,0,none⟩ (.slice pv n cv)).setCell ⟨w.heap.size+1,0,none⟩ (.slice pv n cv)).cell? ⟨w.heap.size+1,0,none⟩=some (.slice pv n cv)):=e0
 clear r0 r1 r2 s1 s2 z3 b3 ho hb hz hw3 e0 hs
 go_wp2_with fail
 have e0:=(show ((w1.setCell ⟨w.heap.size+1+1,0,none⟩ (.slice pv n cv)).setCell ⟨w.heap.size+1,0,none⟩ (.slice pv n cv)).cell? ⟨w.heap.size+1,0,none⟩=some (.slice pv n cv) from E0)
 refine bodyPost_ret (by simp [results,Tryz.results29,go_sem,e0];rfl) rfl ?_
 exact ⟨_,g,t,rfl,by simpa using HF.1,HF.2⟩
theorem eq_sheet {va vb : Value} {n : Nat} {F : Nat → Gv} (w : World) (ha : RowF w va n F) (hb : RowF w vb n F) (hn : n + smr F n ≤ 1048576) (hg : ∀ i, i < n → (F i).a.g < 18446744073709551616) :
  Calls Tryz.prog 32 #[.agg #[va],.agg #[vb]] w fun e w'=>e = .returned (.bool true)∧Below w.heap.size w w':=by
 have hs:Hid (∀ a b:Obj,Calls Tryz.prog 64 #[va,vb] ((w.alloc a).alloc b) fun e w'=>e = .returned (.bool true)∧Below ((w.alloc a).alloc b).heap.size ((w.alloc a).alloc b) w'):=(fun a b=>eq_forms _ (ha.below (bel2 _ _ _)) (hb.below (bel2 _ _ _)) (by omega) (fun i hi=>by
  have hsu:=smr_mono F (show i+1≤n from hi)
  have hss:smr F (i+1)=smr F i+(F i).p+(F i).q:=rfl
  exact ⟨by omega,by omega,hg i hi⟩):∀ a b:Obj,_)
 obtain ⟨pa,ca,rfl,_⟩:=ha
 obtain ⟨pb,cb,rfl,_⟩:=hb
 clear hn hg
 go_enter Tryz.func32,Tryz.ntmps32
 go_wp2_with fail
 refine (hs _ _).mono ?_
 rintro e w1 ⟨rfl,hb⟩
 have HB:Hid (Below w.heap.size w w1):=(bel2 w _ _).trans (hb.mono (by simp;omega))
 clear hb hs
 go_wp2_with fail
 go_ret
 exact ⟨rfl,HB⟩
end Go.Proofs.YtomcmnompajnlaaGreatDoor.Fo.Po
