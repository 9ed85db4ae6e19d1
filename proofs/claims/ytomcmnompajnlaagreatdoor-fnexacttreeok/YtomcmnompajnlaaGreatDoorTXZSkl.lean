import Derived.Test.YtomcmnompajnlaaGreatDoorTXZSkxd
import Derived.Test.YtomcmnompajnlaaGreatDoorBSkm
import Derived.Test.YtomcmnompajnlaaGreatDoorBBab
import Derived.Test.YtomcmnompajnlaaGreatDoorBBaa
import Derived.Test.YtomcmnompajnlaaGreatDoorProg
import GoSem.Claim
import GoSem.ClaimJoined
import GoSem.ClaimMapViews
import Derived.JoinedTies
import Derived.KernelRfl
import Derived.WalkKit
import Derived.ProofKit
import Derived.OpenShut
import Derived.Handy
import Derived.Laws.Strings3
import Derived.Lib.Strings
import Derived.Laws.OwnMore
import Derived.Laws.IdiomStrings
import Derived.Lib.UnsafeStr
import Derived.Deep.QuietTactic
import Derived.BigQuiet
import Derived.Deep.AppendLies
import Derived.Deep.RegionHeldLaw
import Derived.Deep.CutBlock
import Derived.Laws.MakeOwn
import Derived.OwnWalk
import Derived.WalkSpells
import Derived.Deep.Slices
import Derived.SizedLaws
import Derived.Carry
set_option maxRecDepth 100000
set_option maxHeartbeats 8000000
namespace Go.Proofs.YtomcmnompajnlaaGreatDoor.Fo.Po
open Go.ChangeShapes Go.WideShapes Go.ChangeAt Go.RowKit
set_option linter.unusedVariables false
def ndk (nm fl:ByteArray→Prop) (F:Nat→Gv) (i:Nat):Prop :=
 0≤(F i).a.f∧(F i).a.f≤(F i).a.t∧0≤(F i).a.l∧(F i).q≤200∧(∀ j,j < (F i).q→0≤(F i).K j∧(F i).K j < (i:Int))∧shk nm fl F (F i).a (F i).p (F i).A (F i).q (F i).K∧(F i).a.l≤100000∧(1≤(F i).a.k∧(F i).a.k≤16→(F i).a.l ≠ 0)
theorem sp_node {nm fl : ByteArray → Prop} (HN : NmS nm) {v : Value} {n : Nat} {F : Nat → Gv} (w : World) (hf : RowF w v n F) (i : Nat) (hi : i < n) (hn : n ≤ 1048576) (hp : (F i).p ≤ 1048576) (hq : (F i).q ≤ 1048576) (hga : (F i).a.g < 18446744073709551616) :
  Calls Tryz.prog 58 #[.agg #[v],.int .i64 (i:Int)] w fun e w'=>e = .returned (.bool (dc (ndk nm fl F i)))∧Below w.heap.size w w':=by
 obtain ⟨pf,cf,rfl,hf2⟩:=hf
 have hf3:RowF w (.slice pf n cf) n F:=⟨pf,cf,rfl,hf2⟩
 obtain ⟨c,rfl,hcc,hrc⟩:=hf2 (by omega)
 obtain ⟨vn,vk,hc,hrn,hrk⟩:=hrc i hi
 obtain ⟨pn,cn,rfl,hn2⟩:=hrn
 obtain ⟨pk,ck,rfl,hk2⟩:=hrk
 have hrn:RowV w (.slice pn (F i).p cn) (F i).p (fun j=>.string ((F i).A j)):=⟨pn,cn,rfl,hn2⟩
 have hrk:RowV w (.slice pk (F i).q ck) (F i).q (fun j=>.int .i64 ((F i).K j)):=⟨pk,ck,rfl,hk2⟩
 have hc':=fun o:Obj=>hc.below (bel1 w o)
 obtain ⟨W2,hW2⟩:∃ W2,W2=(w.alloc (.cells #[.slice (some c) n cf] 56)).alloc (.cells #[.int .i64 (F i).a.k,.int .i64 (F i).a.f,.int .i64 (F i).a.t,.int .i64 (F i).a.l,.int .i64 (F i).a.o,.int .i64 (F i).a.m,.float .f64 (F i).a.g,.string (F i).a.x,.slice pn (F i).p cn,.slice pk (F i).q ck] 102):=⟨_,rfl⟩
 have hb2:Below w.heap.size w W2:=by rw [hW2];exact bel2 _ _ _
 have hbx:Bx W2 (w.heap.size+1) (F i).a (.slice pn (F i).p cn) (.slice pk (F i).q ck):=by
  rw [hW2]
  have:=Bx.new (w.alloc (.cells #[.slice (some c) n cf] 56)) (F i).a (.slice pn (F i).p cn) (.slice pk (F i).q ck) 102
  simpa using this
 have hct:W2.cell? ⟨w.heap.size,0,none⟩=some (.slice (some c) n cf):=by
  rw [hW2,World.cell?_alloc_past _ _ _ (by simp),World.cell?_alloc_at _ _ _ _ rfl];rfl
 have HSX:Hid ((∀ j,j < (F i).q→0≤(F i).K j∧(F i).K j < (n:Int))→Sx nm W2 (.slice (some c) n cf) n F (.slice pn (F i).p cn) (.slice pk (F i).q ck) (F i).p (F i).A (F i).q (F i).K):=(fun h=>⟨HN,hf3.below hb2,hrn.below hb2,hrk.below hb2,hp,hq,hn,h⟩:_→_)
 have HB2:Hid (Below w.heap.size w W2):=hb2
 have HKC:Hid (∀ j,j < (F i).q→∃ b:Addr,pk=some b∧(F i).q≤ck∧W2.cell? (b.add j)=some (.int .i64 ((F i).K j))):=(fun j hj=>by
  obtain ⟨b,rfl,h1,h2⟩:=hk2 (by omega)
  exact ⟨b,rfl,h1,(hb2.cell (lt_of_cell' (h2 j hj))).trans (h2 j hj)⟩:∀ j,_)
 have HGA:Hid ((F i).a.g < 18446744073709551616):=hga
 obtain ⟨R,hR⟩:∃ R,R=dc (ndk nm fl F i):=⟨_,rfl⟩
 have HR:Hid (R=dc (ndk nm fl F i)):=hR
 rw [← hR]
 have hiI:(i:Int) < (n:Int):=by omega
 have hnI:(n:Int)≤1048576:=by omega
 have hqI:((F i).q:Int)≤1048576:=by omega
 have HIN:Hid (i < n):=hi
 obtain ⟨d0,d1,d2,d3,d4,d5,d6,d7,d8,d9⟩:=hc'  (.cells #[.slice (some c) n cf] 56)
 clear hR hb2 hc hc' hrc hf2 hf3 hrn hrk hn2 hk2 HN hga hp hq hi hn
 have hsf:∀ (a:Addr) (n:Nat) (m:Mode) (w:World),(store a (.float .f64 n) m).run Tryz.prog w=stored Tryz.prog w a (.float .f64 n) m:=fun a n m w=>run_store _ _ _ _ _ rfl
 go_enter Tryz.func58,Tryz.ntmps58
 have OUT:Hid (∀ g:ndk nm fl F i→False,R=false):=(fun g=>(show R = _ from HR).trans (dc_f g):∀ g:ndk nm fl F i→False,R=false)
 rcases Int.lt_or_le (F i).a.f 0 with h1 | h1
 ·have HX:Hid (R=false):=OUT (fun g=>by have:=g.1;omega)
  clear hbx hct hW2
  go_wp2_with fail
  go_ret
  exact ⟨by rw [show R=false from HX];rfl,bel2 _ _ _⟩
 have h1':¬ (F i).a.f < 0:=by omega
 rcases Int.lt_or_le (F i).a.t (F i).a.f with h2 | h2
 ·have HX:Hid (R=false):=OUT (fun g=>by have:=g.2.1;omega)
  clear hbx hct hW2
  go_wp2_with fail
  go_ret
  exact ⟨by rw [show R=false from HX];rfl,bel2 _ _ _⟩
 have h2':¬ (F i).a.t < (F i).a.f:=by omega
 rcases Int.lt_or_le (F i).a.l 0 with h3 | h3
 ·have HX:Hid (R=false):=OUT (fun g=>by have:=g.2.2.1;omega)
  clear hbx hct hW2
  go_wp2_with fail
  go_ret
  exact ⟨by rw [show R=false from HX];rfl,bel2 _ _ _⟩
 have h3':¬ (F i).a.l < 0:=by omega
 rcases Int.lt_or_le 100000 (F i).a.l with h5 | h5
 ·have HX:Hid (R=false):=OUT (fun g=>by have:=g.2.2.2.2.2.2.1;omega)
  clear hbx hct hW2
  go_wp2_with fail
  go_ret
  exact ⟨by rw [show R=false from HX];rfl,bel2 _ _ _⟩
 have h5':¬ 100000 < (F i).a.l:=by omega
 rcases Int.lt_or_le 200 ((F i).q:Int) with h4 | h4
 ·have HX:Hid (R=false):=OUT (fun g=>by have:=g.2.2.2.1;omega)
  clear hbx hct hW2
  go_wp2_with fail
  go_ret
  exact ⟨by rw [show R=false from HX];rfl,bel2 _ _ _⟩
 have h4':¬ 200 < ((F i).q:Int):=by omega
 have hst0:=fun W=>sp_stat (F i).a.k W
 have hgo:¬ (1≤(F i).a.k∧(F i).a.k≤16∧(F i).a.l=0)∨(1≤(F i).a.k∧(F i).a.k≤16∧(F i).a.l=0):=by
  by_cases h : 1≤(F i).a.k∧(F i).a.k≤16∧(F i).a.l=0
  ·exact .inr h
  ·exact .inl h
 rcases hgo with h6 | h6
 case inr =>
  have HX:Hid (R=false):=OUT (fun g=>g.2.2.2.2.2.2.2 ⟨h6.1,h6.2.1⟩ h6.2.2)
  rw [dc_t ⟨h6.1,h6.2.1⟩] at hst0
  have h6':((F i).a.l == 0)=true:=beq1 h6.2.2
  have HB:Hid (Below w.heap.size w W2):=HB2
  clear h6
  go_wp2_with fail
  rw [← hW2]
  clear d0 d1 d2 d3 d4 d5 d6 d7 d8 d9
  refine (hst0 _).mono ?_
  rintro e w1 ⟨rfl,hw1⟩
  rw [hw1]
  clear hw1 w1
  obtain ⟨c0,c1,c2,c3,c4,c5,c6,c7,c8,c9⟩:=hbx
  clear hst0 hW2 h1 h1' h2 h2' h3 h3' h4 h4' h5 h5'
  go_wp2_with fail
  go_ret
  exact ⟨by rw [show R=false from HX];rfl,HB⟩
 have HH:Hid (0≤(F i).a.f∧(F i).a.f≤(F i).a.t∧0≤(F i).a.l∧(F i).q≤200∧(F i).a.l≤100000∧(1≤(F i).a.k∧(F i).a.k≤16→(F i).a.l ≠ 0)):=(⟨h1,h2,h3,by omega,h5,fun hk he=>h6 ⟨hk.1,hk.2,he⟩⟩:_∧_∧_∧_∧_∧_)
 have hpass:(1≤(F i).a.k∧(F i).a.k≤16∧((F i).a.l == 0)=false)∨¬ (1≤(F i).a.k∧(F i).a.k≤16):=by
  by_cases h : 1≤(F i).a.k∧(F i).a.k≤16
  ·exact .inl ⟨h.1,h.2,bne (fun he=>h6 ⟨h.1,h.2,he⟩)⟩
  ·exact .inr h
 obtain ⟨Zk,hZk⟩:∃ Zk,dc (1≤(F i).a.k∧(F i).a.k≤16)=Zk:=⟨_,rfl⟩
 have hZ2:(Zk=true∧((F i).a.l == 0)=false)∨Zk=false:=by
  rcases hpass with h | h
  ·exact .inl ⟨by rw [← hZk];exact dc_t ⟨h.1,h.2.1⟩,h.2.2⟩
  ·exact .inr (by rw [← hZk];exact dc_f h)
 rw [hZk] at hst0
 go_wp2_with fail
 rw [← hW2]
 clear hW2 d0 d1 d2 d3 d4 d5 d6 d7 d8 d9
 refine (hst0 _).mono ?_
 rintro e w1 ⟨rfl,hw1⟩
 rw [hw1]
 clear hw1 w1
 obtain ⟨c0,c1,c2,c3,c4,c5,c6,c7,c8,c9⟩:=hbx
 clear h1 h1' h2 h2' h3 h3' h4 h4' h5 h5' h6 hpass hst0 hZk
 rcases hZ2 with ⟨rfl,hl0⟩ | rfl
 all_goals
  go_wp2_with fail
  go_loopw [50] (fun sr wr=>∃ j:Nat,sr = .int .i64 (j:Int)∧j≤(F i).q∧wr=W2∧Hid (∀ j',j' < j→0≤(F i).K j'∧(F i).K j' < (i:Int))) (fun sr _=>(F i).q - (intOf sr).toNat)
  case atStart=>exact ⟨0,rfl,Nat.zero_le _,rfl,(fun j hj=>by omega:∀ j',j' < 0→_)⟩
  case round =>
   obtain ⟨j,rfl,hj,rfl,HI⟩:=hrel
   have hI:=(show ∀ j',j' < j→0≤(F i).K j'∧(F i).K j' < (i:Int) from HI)
   rcases Nat.lt_or_ge j (F i).q with hj2 | hj2
   ·have hjI:(j:Int) < ((F i).q:Int):=by omega
    obtain ⟨b,rfl,hcb,q0⟩:=(show ∀ j,j < (F i).q→_ from HKC) j hj2
    rcases Int.lt_or_le ((F i).K j) 0 with g1 | g1
    ·have HX:Hid (R=false):=OUT (fun g=>by have:=(g.2.2.2.2.1 j hj2).1;omega)
     clear hI HI hj c0 c1 c2 c3 c4 c5 c6 c7 c8 c9 hct
     generalize (F i).K j=y at *
     go_wp2_with fail
     go_ret
     exact ⟨by rw [show R=false from HX];rfl,HB2⟩
    ·have g1':¬ (F i).K j < 0:=by omega
     rcases Int.lt_or_le ((F i).K j) (i:Int) with g2 | g2
     ·have g2':¬ (i:Int)≤(F i).K j:=by omega
      have HX:Hid (∀ j',j' < j+1→0≤(F i).K j'∧(F i).K j' < (i:Int)):=(fun j' hj'=>by
       by_cases e:j'=j
       ·rw [e];exact ⟨g1,g2⟩
       ·exact hI j' (by omega):∀ j',_)
      clear hI HI hj c0 c1 c2 c3 c4 c5 c6 c7 c8 c9 hct
      generalize (F i).K j=y at *
      go_wp2_with fail
      go_roundw
      case rel=>exact ⟨j+1,by go_num,by omega,by trivial,HX⟩
      case measure=>simp [intOf];omega
     ·have HX:Hid (R=false):=OUT (fun g=>by have:=(g.2.2.2.2.1 j hj2).2;omega)
      clear hI HI hj c0 c1 c2 c3 c4 c5 c6 c7 c8 c9 hct
      generalize (F i).K j=y at *
      go_wp2_with fail
      go_ret
      exact ⟨by rw [show R=false from HX];rfl,HB2⟩
   ·obtain rfl:j=(F i).q:=by omega
    have hsx:=(show (∀ j,j < (F i).q→0≤(F i).K j∧(F i).K j < (n:Int))→_ from HSX) (fun j hj=>by have:=hI j hj;omega)
    have hst:=fun W=>sp_stat (F i).a.k W
    have HIK:Hid (∀ j',j' < (F i).q→0≤(F i).K j'∧(F i).K j' < (i:Int)):=hI
    by_cases hk : 1≤(F i).a.k∧(F i).a.k≤16
    ·rw [dc_t hk] at hst
     have HST:Hid (∀ W,Calls Tryz.prog 85 #[.int .i64 (F i).a.k] W fun e w'=>e = .returned (.bool true)∧w'=W):=hst
     have HC:Hid (Calls Tryz.prog 86 #[.agg #[.slice (some c) n cf],fmv (F i).a (.slice pn (F i).p cn) (.slice pk (F i).q ck)] wr fun e w'=>e = .returned (.bool (dc (shk nm fl F (F i).a (F i).p (F i).A (F i).q (F i).K)))∧Below wr.heap.size wr w'):=sp_st fl hsx (F i).a HGA hk
     clear hI HI hsx hst hk
     go_wp2_with fail
     refine ((show ∀ W,_ from HST) _).mono ?_
     rintro e w1 ⟨rfl,rfl⟩
     go_wp2_with fail
     refine (show Calls Tryz.prog 86 #[.agg #[.slice (some c) n cf],fmv (F i).a (.slice pn (F i).p cn) (.slice pk (F i).q ck)] w1 fun e w'=>e = .returned (.bool (dc (shk nm fl F (F i).a (F i).p (F i).A (F i).q (F i).K)))∧Below w1.heap.size w1 w' from HC).mono ?_
     rintro e w2 ⟨rfl,b2⟩
     have HX:Hid (R=dc (shk nm fl F (F i).a (F i).p (F i).A (F i).q (F i).K)):=(show R = _ from HR).trans (dc_iff ⟨fun g=>g.2.2.2.2.2.1,fun g=>⟨HH.1,HH.2.1,HH.2.2.1,HH.2.2.2.1,HIK,g,HH.2.2.2.2.1,HH.2.2.2.2.2⟩⟩)
     have HB3:Hid (Below w.heap.size w w2):=(show Below w.heap.size w w1 from HB2).trans (b2.mono (show Below w.heap.size w w1 from HB2).size)
     clear b2 HC HST
     generalize dc (shk nm fl F (F i).a (F i).p (F i).A (F i).q (F i).K)=z at *
     go_wp2_with fail
     go_ret
     exact ⟨by rw [show R=z from HX];rfl,HB3⟩
    ·rw [dc_f hk] at hst
     have HST:Hid (∀ W,Calls Tryz.prog 85 #[.int .i64 (F i).a.k] W fun e w'=>e = .returned (.bool false)∧w'=W):=hst
     have HC:Hid (Calls Tryz.prog 87 #[.agg #[.slice (some c) n cf],fmv (F i).a (.slice pn (F i).p cn) (.slice pk (F i).q ck)] wr fun e w'=>e = .returned (.bool (dc (shk nm fl F (F i).a (F i).p (F i).A (F i).q (F i).K)))∧Below wr.heap.size wr w'):=sp_xp hsx (F i).a HGA hk
     clear hI HI hsx hst hk
     go_wp2_with fail
     refine ((show ∀ W,_ from HST) _).mono ?_
     rintro e w1 ⟨rfl,rfl⟩
     go_wp2_with fail
     refine (show Calls Tryz.prog 87 #[.agg #[.slice (some c) n cf],fmv (F i).a (.slice pn (F i).p cn) (.slice pk (F i).q ck)] w1 fun e w'=>e = .returned (.bool (dc (shk nm fl F (F i).a (F i).p (F i).A (F i).q (F i).K)))∧Below w1.heap.size w1 w' from HC).mono ?_
     rintro e w2 ⟨rfl,b2⟩
     have HX:Hid (R=dc (shk nm fl F (F i).a (F i).p (F i).A (F i).q (F i).K)):=(show R = _ from HR).trans (dc_iff ⟨fun g=>g.2.2.2.2.2.1,fun g=>⟨HH.1,HH.2.1,HH.2.2.1,HH.2.2.2.1,HIK,g,HH.2.2.2.2.1,HH.2.2.2.2.2⟩⟩)
     have HB3:Hid (Below w.heap.size w w2):=(show Below w.heap.size w w1 from HB2).trans (b2.mono (show Below w.heap.size w w1 from HB2).size)
     clear b2 HC HST
     generalize dc (shk nm fl F (F i).a (F i).p (F i).A (F i).q (F i).K)=z at *
     go_wp2_with fail
     go_ret
     exact ⟨by rw [show R=z from HX];rfl,HB3⟩
def szl (F:Nat→Gv):Nat→Nat→Int
 | 0,_=>0
 | i+1,k=>if k=i then (match bk (szl F i) (F i).K (F i).q (i:Int) with | some at'=>(i:Int) - at'+1 | none=>0) else szl F i k
theorem szl_stay (F:Nat→Gv) {k i:Nat} (h:k < i):∀ n,i≤n→szl F n k=szl F i k:=by
 intro n
 induction n with
 | zero=>intro h2;omega
 | succ n ih =>
  intro h2
  by_cases e:i=n+1
  ·rw [e]
  ·rw [← ih (by omega)]
   show (if k=n then _ else szl F n k) = _
   rw [if_neg (by omega)]
def Kn (F:Nat→Gv) (n:Nat):Prop:=∀ i,i < n→∀ j,j < (F i).q→0≤(F i).K j∧(F i).K j < (i:Int)
theorem szl_in {F:Nat→Gv} {n:Nat} (h:Kn F n):∀ i,i≤n→∀ k,0≤szl F i k∧szl F i k≤(k:Int)+1:=by
 intro i
 induction i with
 | zero=>intro _ k;show 0≤(0:Int)∧(0:Int)≤_;omega
 | succ i ih =>
  intro hi k
  show 0≤(if k=i then _ else szl F i k)∧(if k=i then _ else szl F i k)≤_
  by_cases e:k=i
  ·rw [if_pos e]
   cases hb:bk (szl F i) (F i).K (F i).q (i:Int) with
   | none=>simp only;omega
   | some r =>
    have:=bk_in (ih (by omega)) (F i).q (i:Int) r (h i (by omega)) (by omega) (by omega) hb
    simp only
    omega
  ·rw [if_neg e];exact ih (by omega) k
theorem MkR.skip {w W w6:World} {g n i:Nat} {A M:Nat→Value} (h:MkR w g n A M i W) (hi:i < n) (hb:Below W.heap.size W w6) (he:A i=M i):MkR w g n A M (i+1) w6:=by
 have hg:g < W.heap.size:=lt_of_cell (h.rest i (Nat.le_refl _) hi)
 have e7:∀ j,w6.cell? ⟨g,j,none⟩=W.cell? ⟨g,j,none⟩:=fun j=>World.cell?_of_block (hb.block g hg)
 refine ⟨h.kq.trans (Kq.of_below hb (Nat.le_refl _)),fun j hj=>?_,fun j h1 h2=>?_,fun j=>by rw [World.frozen?_of_block (hb.block g hg)];exact h.fz j⟩
 ·rw [e7]
  by_cases e:j=i
  ·rw [e,← he];exact h.rest i (Nat.le_refl _) hi
  ·exact h.don j (by omega)
 ·rw [e7];exact h.rest j (by omega) h2
theorem sp_sizes {v : Value} {n : Nat} {F : Nat → Gv} (w : World) (hf : RowF w v n F) (hn : n ≤ 1048576) (hK : Kn F n) (hq : ∀ i, i < n → (F i).q ≤ 1048576) :
  Calls Tryz.prog 59 #[.agg #[v]] w fun e w'=>∃ u g,e = .returned u∧OwnR w' u g n (fun k=>.int .i64 (szl F n k))∧Below w.heap.size w w'∧w.heap.size≤g∧g < w'.heap.size:=by
 obtain ⟨pf,cf,rfl,hf2⟩:=hf
 have hnI:(n:Int)≤1048576:=by omega
 obtain ⟨w0,hw0⟩:∃ w0,w0=w.alloc (.cells #[.slice pf n cf] 56):=⟨_,rfl⟩
 have hmk:=run_make (P:=Tryz.prog) w0 36 3 Tryz.t3 (.int .i64 0) Tryz.underlying36 (by kernel_rfl) (by kernel_rfl) .i64 .i64 (n:Int) (n:Int) (by omega) (Int.le_refl _) (by show (8:Int)*(n:Int)≤_;omega) (by omega)
 rw [Int.toNat_natCast] at hmk
 obtain ⟨w1,hw1⟩:∃ w1,w1=w0.alloc (.cells (madeCells (.int .i64 0:Value).cells (n*Tryz.t3.size)) 3):=⟨_,rfl⟩
 rw [← hw1] at hmk
 obtain ⟨G,hG⟩:∃ G,G=w0.heap.size:=⟨_,rfl⟩
 have hG':G=w.heap.size+1:=by rw [hG,hw0];simp
 have c1:∀ j,j < n→w1.cell? ⟨G,j,none⟩=some (.int .i64 0):=by intro j hj;rw [hw1,hG];exact made_cell w0 _ 3 n rfl j hj
 have f1:∀ j,w1.frozen? ⟨G,j,none⟩=false:=by intro j;rw [hw1,hG];exact made_fz _ _ _ _
 have b01:Below w0.heap.size w0 w1:=by rw [hw1];exact bel1 _ _
 have b1:Below w.heap.size w w1:=(by rw [hw0];exact bel1 _ _:Below w.heap.size w w0).trans (b01.mono (by rw [hw0];simp))
 have l1:G < w1.heap.size:=by rw [hw1,hG];simp
 have hct0:w1.cell? ⟨w.heap.size,0,none⟩=some (.slice pf n cf):=by
  rw [b01.cell (p:=⟨w.heap.size,0,none⟩) (by rw [hw0];show w.heap.size < _;simp),hw0,World.cell?_alloc_at _ _ _ _ rfl];rfl
 have HI0:Hid (MkR w1 G n (fun _=>.int .i64 0) (fun k=>.int .i64 (szl F n k)) 0 w1):=(⟨Kq.refl _ _,fun i hi=>by omega,fun i _ hi=>c1 i hi,f1⟩:MkR w1 G n _ _ 0 w1)
 have HA:Hid ((0 < n→∃ a:Addr,pf=some a∧n≤cf∧∀ i,i < n→FormC w (a.add (i*10)) (F i))∧Below w.heap.size w w1∧G=w.heap.size+1∧G < w1.heap.size∧Kn F n∧(∀ i,i < n→(F i).q≤1048576)):=(⟨hf2,b1,hG',l1,hK,hq⟩:_∧_∧_∧_∧_∧_)
 rw [← hG] at hmk
 clear hf2 b1 c1 f1 hw1 hn l1 hG' hK hq b01 hG
 have hsf:∀ (a:Addr) (n:Nat) (m:Mode) (w:World),(store a (.float .f64 n) m).run Tryz.prog w=stored Tryz.prog w a (.float .f64 n) m:=fun a n m w=>run_store _ _ _ _ _ rfl
 go_enter Tryz.func59,Tryz.ntmps59
 rw [hw0] at hmk
 go_wp2_with fail
 clear hmk hw0
 go_loopw [17] (fun sr wr=>∃ i:Nat,sr = .int .i64 (i:Int)∧i≤n∧Hid (MkR w1 G n (fun _=>.int .i64 0) (fun k=>.int .i64 (szl F n k)) i wr)) (fun sr _=>n - (intOf sr).toNat)
 case atStart=>exact ⟨0,rfl,Nat.zero_le _,HI0⟩
 case round =>
  clear HI0 hct0
  obtain ⟨i,rfl,hin,HI⟩:=hrel
  have hI:=(show MkR w1 G n (fun _=>.int .i64 0) (fun k=>.int .i64 (szl F n k)) i wr from HI)
  obtain ⟨a1,a2,a3,a4,a5,a6⟩:=(show (0 < n→∃ a:Addr,pf=some a∧n≤cf∧∀ i,i < n→FormC w (a.add (i*10)) (F i))∧Below w.heap.size w w1∧G=w.heap.size+1∧G < w1.heap.size∧Kn F n∧(∀ i,i < n→(F i).q≤1048576) from HA)
  have hBW:Below w.heap.size w wr:=⟨hI.kq.os.trans a2.os,hI.kq.tape.trans a2.tape,hI.kq.output.trans a2.output,Nat.le_trans a2.size hI.kq.size,fun b hb=>(hI.kq.block b (Nat.lt_of_lt_of_le hb a2.size) (by omega)).trans (a2.block b hb)⟩
  rcases Nat.lt_or_ge i n with hi | hi
  ·have hiI:(i:Int) < (n:Int):=by omega
   obtain ⟨c,rfl,hcc,hrc⟩:=a1 (by omega)
   obtain ⟨un,uk,hc,hrn,hrk⟩:=(hrc i hi).below hBW
   obtain ⟨pn,cn,rfl,_⟩:=hrn
   obtain ⟨pk,ck,rfl,hk2⟩:=hrk
   obtain ⟨d0,d1,d2,d3,d4,d5,d6,d7,d8,d9⟩:=hc
   obtain ⟨A,hA⟩:∃ A,A=wr.alloc (.cells #[.int .i64 (F i).a.k,.int .i64 (F i).a.f,.int .i64 (F i).a.t,.int .i64 (F i).a.l,.int .i64 (F i).a.o,.int .i64 (F i).a.m,.float .f64 (F i).a.g,.string (F i).a.x,.slice pn (F i).p cn,.slice pk (F i).q ck] 102):=⟨_,rfl⟩
   have bA:Below wr.heap.size wr A:=by rw [hA];exact bel1 _ _
   have hbx:Bx A wr.heap.size (F i).a (.slice pn (F i).p cn) (.slice pk (F i).q ck):=by rw [hA];exact Bx.new _ _ _ _ _
   have c9:=hbx.c9
   have hqI:((F i).q:Int)≤1048576:=by have:=a6 i hi;omega
   have hsz:=szl_in a5 i (by omega)
   have HSZ:Hid ((∀ k,0≤szl F i k∧szl F i k≤(k:Int)+1)∧∀ j,j < (F i).q→0≤(F i).K j∧(F i).K j < (i:Int)):=(⟨hsz,a5 i hi⟩:_∧_)
   have HKC:Hid (∀ j,j < (F i).q→∃ b:Addr,pk=some b∧(F i).q≤ck∧A.cell? (b.add j)=some (.int .i64 ((F i).K j))):=(fun j hj=>by
    obtain ⟨b,rfl,h1,h2⟩:=hk2 (by omega)
    exact ⟨b,rfl,h1,(bA.cell (lt_of_cell' (h2 j hj))).trans (h2 j hj)⟩:∀ j,_)
   have hgW:G < wr.heap.size:=Nat.lt_of_lt_of_le a4 hI.kq.size
   have HGC:Hid (∀ k,k < i→A.cell? ⟨G,k,none⟩=some (.int .i64 (szl F i k))):=(fun k hk=>by
    rw [bA.cell (p:=⟨G,k,none⟩) hgW,hI.don k hk,szl_stay F hk n (by omega)]:∀ k,_)
   have HM:Hid (szl F n i=(match bk (szl F i) (F i).K (F i).q (i:Int) with | some at'=>(i:Int) - at'+1 | none=>0)):=by
    show szl F n i = _
    rw [szl_stay F (Nat.lt_succ_self i) n hi]
    show (if i=i then _ else _) = _
    rw [if_pos rfl]
   have HST:Hid (A.cell? ⟨G,i,none⟩=some (.int .i64 0)∧A.frozen? ⟨G,i,none⟩=false∧MkR w1 G n (fun _=>.int .i64 0) (fun k=>.int .i64 (szl F n k)) (i+1) (A.setCell ⟨G,i,none⟩ (.int .i64 (szl F n i)))):=hI.step hi bA
   have HSK:Hid (szl F n i=0→MkR w1 G n (fun _=>.int .i64 0) (fun k=>.int .i64 (szl F n k)) (i+1) A):=(fun e=>hI.skip hi bA (by rw [e]):_→_)
   clear hI HI HA a1 a2 a3 a4 a5 a6 hBW hrc hbx hsz hin hk2 hgW bA
   go_wp2_with fail
   rw [← hA]
   clear hA d0 d1 d2 d3 d4 d5 d6 d7 d8 d9
   go_loopw [6,7,8] (fun s7 s8 s9 wv=>∃ (jj:Nat) (at':Int),s7 = .int .i64 at'∧s8 = .bool true∧s9 = .int .i64 ((jj:Int) - 1)∧jj≤(F i).q∧0≤at'∧at'≤(i:Int)∧wv=A∧Hid (bk (szl F i) (F i).K (F i).q (i:Int)=bk (szl F i) (F i).K jj at')) (fun _ _ s9 _=>((intOf s9)+1).toNat)
   case atStart=>exact ⟨(F i).q,(i:Int),rfl,rfl,rfl,Nat.le_refl _,by omega,by omega,rfl,(rfl:bk (szl F i) (F i).K (F i).q (i:Int) = _)⟩
   case round =>
    obtain ⟨jj,at',rfl,rfl,rfl,hjj,hat0,hat1,rfl,HBK⟩:=hrel
    cases jj with
    | zero =>
     have HV:Hid (szl F n i=(i:Int) - at'+1):=by
      show szl F n i = _
      rw [show szl F n i = _ from HM,show bk (szl F i) (F i).K (F i).q (i:Int)=bk (szl F i) (F i).K 0 at' from HBK]
      rfl
     obtain ⟨g1,g2,g3⟩:=(show wr.cell? ⟨G,i,none⟩=some (.int .i64 0)∧wr.frozen? ⟨G,i,none⟩=false∧_ from HST)
     rw [show szl F n i = _ from HV] at g3
     have HG3:Hid (MkR w1 G n (fun _=>.int .i64 0) (fun k=>.int .i64 (szl F n k)) (i+1) (wr.setCell ⟨G,i,none⟩ (.int .i64 ((i:Int) - at'+1)))):=g3
     clear g3 HST HSK HBK HM HV HGC HKC HSZ hjj
     rw [show (((0:Nat):Int) - 1) = -1 from rfl]
     go_wp2_with fail
     go_roundw
     case rel=>exact ⟨i+1,by go_num,by omega,HG3⟩
     case measure=>simp [intOf];omega
    | succ k =>
     obtain ⟨b,rfl,hcb,q0⟩:=(show ∀ j,j < (F i).q→_ from HKC) k (by omega)
     obtain ⟨hsz,hkk⟩:=(show (∀ k,0≤szl F i k∧szl F i k≤(k:Int)+1)∧∀ j,j < (F i).q→0≤(F i).K j∧(F i).K j < (i:Int) from HSZ)
     have hk1:=hkk k (by omega)
     obtain ⟨m,hm⟩:∃ m:Nat,(F i).K k=(m:Int):=⟨((F i).K k).toNat,by omega⟩
     have hms:=hsz m
     have q1:=(show ∀ k,k < i→wr.cell? ⟨G,k,none⟩=some (.int .i64 (szl F i k)) from HGC) m (by omega)
     have hbk1:bk (szl F i) (F i).K (k+1) at'=if (m:Int)=at' - 1∧szl F i m ≠ 0 then bk (szl F i) (F i).K k (at' - szl F i m) else none:=by
      show (if (F i).K k=at' - 1∧szl F i ((F i).K k).toNat ≠ 0 then bk (szl F i) (F i).K k (at' - szl F i ((F i).K k).toNat) else none) = _
      rw [hm,Int.toNat_natCast]
     rw [hm] at q0
     have hmI:(m:Int) < (i:Int):=by omega
     have hkI:(k:Int) < ((F i).q:Int):=by omega
     rw [show (((k+1:Nat):Int) - 1)=(k:Int) from by omega]
     have HN:Hid (bk (szl F i) (F i).K (k+1) at'=none→MkR w1 G n (fun _=>.int .i64 0) (fun k=>.int .i64 (szl F n k)) (i+1) wr):=(fun e=>(show szl F n i=0→_ from HSK) (by
      rw [show szl F n i = _ from HM,show bk (szl F i) (F i).K (F i).q (i:Int)=bk (szl F i) (F i).K (k+1) at' from HBK,e]):_→_)
     have HL:Hid (k+1≤(F i).q):=hjj
     clear hkk hk1 hm hsz hjj HST HSK HM HGC HKC
     by_cases e1:(m:Int)=at' - 1
     ·have e1':((m:Int) != at' - 1)=false:=by rw [e1];simp
      by_cases e2:szl F i m=0
      ·have HD:Hid (MkR w1 G n (fun _=>.int .i64 0) (fun k=>.int .i64 (szl F n k)) (i+1) wr):=HN (by rw [hbk1,if_neg (fun g=>g.2 e2)])
       have e2':(szl F i m == 0)=true:=beq1 e2
       clear HN hbk1 HBK e1 e2
       generalize szl F i m=z at *
       go_wp2_with fail
       go_roundw
       case rel=>exact ⟨i+1,by go_num,by omega,HD⟩
       case measure=>simp [intOf];omega
      ·have HD:Hid (bk (szl F i) (F i).K (F i).q (i:Int)=bk (szl F i) (F i).K k (at' - szl F i m)):=(show bk (szl F i) (F i).K (F i).q (i:Int)=bk (szl F i) (F i).K (k+1) at' from HBK).trans (by rw [hbk1,if_pos ⟨e1,e2⟩])
       have e2':(szl F i m == 0)=false:=bne e2
       have n0 : 0≤at' - szl F i m:=by omega
       have n1:at' - szl F i m≤(i:Int):=by omega
       clear HN hbk1 HBK e1 e2
       generalize hz:szl F i m=z at *
       clear hz
       go_wp2_with fail
       go_roundw
       case rel=>exact ⟨k,at' - z,rfl,rfl,by first | rfl | go_num,by have:=(show k+1≤(F i).q from HL);omega,n0,n1,by trivial,HD⟩
       case measure=>simp [intOf]
     ·have HD:Hid (MkR w1 G n (fun _=>.int .i64 0) (fun k=>.int .i64 (szl F n k)) (i+1) wr):=HN (by rw [hbk1,if_neg (fun g=>e1 g.1)])
      have e1':((m:Int) != at' - 1)=true:=bne_iff_ne.2 e1
      clear HN hbk1 HBK e1
      generalize szl F i m=z at *
      go_wp2_with fail
      go_roundw
      case rel=>exact ⟨i+1,by go_num,by omega,HD⟩
      case measure=>simp [intOf];omega
  ·obtain rfl:i=n:=by omega
   have HE:Hid (MkR w1 G i (fun _=>.int .i64 0) (fun k=>.int .i64 (szl F i k)) i wr∧Below w.heap.size w wr∧w.heap.size≤G∧G < wr.heap.size):=(⟨hI,hBW,by omega,Nat.lt_of_lt_of_le a4 hI.kq.size⟩:_∧_∧_∧_)
   clear HI hI HA a1 a2 a3 a4 a5 a6 hBW
   go_wp2_with fail
   go_ret
   obtain ⟨hE,hB,g1,g2⟩:=(show MkR w1 G i (fun _=>.int .i64 0) (fun k=>.int .i64 (szl F i k)) i wr∧Below w.heap.size w wr∧w.heap.size≤G∧G < wr.heap.size from HE)
   exact ⟨_,G,rfl,⟨⟨_,_,rfl,fun _=>⟨rfl,Nat.le_refl _⟩⟩,fun j hj=>hE.don j hj,fun _ j=>hE.fz j⟩,hB,g1,g2⟩
def dpr (F:Nat→Gv) (n:Nat):Nat→Nat→Int
 | 0,_=>0
 | r+1,k=>upd (dpr F n r) (F (n - 1 - r)).K (dpr F n r (n - 1 - r)+1) (F (n - 1 - r)).q k
theorem dpr_in (F:Nat→Gv) (n:Nat):∀ r k,0≤dpr F n r k∧dpr F n r k≤(r:Int):=by
 intro r
 induction r with
 | zero=>intro k;show 0≤(0:Int)∧(0:Int)≤_;omega
 | succ r ih =>
  intro k
  have h1:=ih (n - 1 - r)
  exact upd_in (m:=((r+1:Nat):Int)) (fun k=>by have:=ih k;omega) (by omega) _ k
inductive Fl (nm fl:ByteArray→Prop) (F:Nat→Gv) (n:Nat):Int→Int→Prop
 | none0:n=0∨3000 < n∨(0 < n∧(F (n - 1)).a.k ≠ 1)→Fl nm fl F n 1 0
 | shape (i:Nat) : 0 < n→n≤3000→(F (n - 1)).a.k=1→i < n→(∀ j,j < i→ndk nm fl F j)→¬ ndk nm fl F i→Fl nm fl F n 2 (i:Int)
 | order (i:Nat) : 0 < n→n≤3000→(F (n - 1)).a.k=1→(∀ j,j < n→ndk nm fl F j)→i < n→(∀ j,j < i→szl F n j ≠ 0)→szl F n i=0→Fl nm fl F n 3 (i:Int)
 | whole : 0 < n→n≤3000→(F (n - 1)).a.k=1→(∀ j,j < n→ndk nm fl F j)→(∀ j,j < n→szl F n j ≠ 0)→szl F n (n - 1) ≠ (n:Int)→Fl nm fl F n 3 ((n:Int) - 1)
 | depth (i:Nat) : 0 < n→n≤3000→(F (n - 1)).a.k=1→(∀ j,j < n→ndk nm fl F j)→(∀ j,j < n→szl F n j ≠ 0)→szl F n (n - 1)=(n:Int)→i < n→(∀ j,j < i→dpr F n n j≤100)→100 < dpr F n n i→Fl nm fl F n 4 (i:Int)
 | sound : 0 < n→n≤3000→(F (n - 1)).a.k=1→(∀ j,j < n→ndk nm fl F j)→(∀ j,j < n→szl F n j ≠ 0)→szl F n (n - 1)=(n:Int)→(∀ j,j < n→dpr F n n j≤100)→Fl nm fl F n 0 0
theorem sp_sheet {nm fl : ByteArray → Prop} (HN : NmS nm) {v : Value} {n : Nat} {F : Nat → Gv} (w : World) (hf : RowF w v n F) (hn : n ≤ 1048576) (hp : ∀ i, i < n → (F i).p ≤ 1048576) (hq : ∀ i, i < n → (F i).q ≤ 1048576) (hga : ∀ i, i < n → (F i).a.g < 18446744073709551616) :
  Calls Tryz.prog 28 #[.agg #[v]] w fun e w'=>∃ c f,e = .returned (.agg #[.int .i64 c,.int .i64 f])∧Fl nm fl F n c f∧Below w.heap.size w w':=by
 obtain ⟨pf,cf,rfl,hf2⟩:=hf
 have hsf:∀ (a:Addr) (n:Nat) (m:Mode) (w:World),(store a (.float .f64 n) m).run Tryz.prog w=stored Tryz.prog w a (.float .f64 n) m:=fun a n m w=>run_store _ _ _ _ _ rfl
 have HF:Hid (RowF w (.slice pf n cf) n F):=⟨pf,cf,rfl,hf2⟩
 obtain ⟨W2,hW2⟩:∃ W2,W2=(w.alloc (.cells #[.slice pf n cf] 56)).alloc (.cells #[.int .i64 0,.int .i64 0] 52):=⟨_,rfl⟩
 have hs2:Rs W2 w.heap.size (.slice pf n cf):=by rw [hW2];exact Rs.new _ _ _ _
 have hb2:Below w.heap.size w W2:=by rw [hW2];exact bel2 _ _ _
 have HS2:Hid (Rs W2 w.heap.size (.slice pf n cf)∧Below w.heap.size w W2):=(⟨hs2,hb2⟩:_∧_)
 have HO:Hid (NmS nm∧(∀ i,i < n→(F i).a.g < 18446744073709551616)∧n≤1048576∧(∀ i,i < n→(F i).p≤1048576)∧(∀ i,i < n→(F i).q≤1048576)):=(⟨HN,hga,hn,hp,hq⟩:_∧_∧_∧_∧_)
 have hnI:(n:Int)≤1048576:=by omega
 clear HN hga hn hp hq
 by_cases h0:n=0∨3000 < n∨(0 < n∧(F (n - 1)).a.k ≠ 1)
 ·have HX:Hid (Fl nm fl F n 1 0):=Fl.none0 h0
  have c0:=hs2.ct
  have c1:=hs2.r0
  have c2:=hs2.r1
  have c3:=hs2.z0
  have c4:=hs2.z1
  clear hs2
  rcases Nat.eq_zero_or_pos n with g0 | g0
  ·subst g0
   clear hf2 hnI h0 hb2
   go_enter Tryz.func28,Tryz.ntmps28
   go_wp2_with fail
   go_returns
   exact ⟨1,0,by first | rfl | simp,HX,bel2 _ _ _⟩
  ·have g0':((n:Int) == 0)=false:=bne (by omega)
   rcases Nat.lt_or_ge 3000 n with g1 | g1
   ·have g1' : 3000 < (n:Int):=by omega
    clear hf2 h0 hb2
    go_enter Tryz.func28,Tryz.ntmps28
    go_wp2_with fail
    go_returns
    exact ⟨1,0,by first | rfl | simp,HX,bel2 _ _ _⟩
   ·have g1':¬ 3000 < (n:Int):=by omega
    have hk:(F (n - 1)).a.k ≠ 1:=by omega
    obtain ⟨c,rfl,hcc,hrc⟩:=hf2 g0
    obtain ⟨vn,vk,hc,_,_⟩:=(hrc (n - 1) (by omega)).below ((by rw [hW2] at hb2;exact hb2):Below w.heap.size w ((w.alloc (.cells #[.slice (some c) n cf] 56)).alloc (.cells #[.int .i64 0,.int .i64 0] 52)))
    obtain ⟨m,hm⟩:∃ m:Nat,m=n - 1:=⟨_,rfl⟩
    rw [← hm] at hc hk
    have hm1:(n:Int) - 1=(m:Int):=by omega
    have hm2:(m:Int) < (n:Int):=by omega
    have hk':((F m).a.k != 1)=true:=bne_iff_ne.2 hk
    obtain ⟨d0,d1,d2,d3,d4,d5,d6,d7,d8,d9⟩:=hc
    clear hf2 h0 hrc hk hm
    go_enter Tryz.func28,Tryz.ntmps28
    go_wp2_with fail
    go_returns
    exact ⟨1,0,by first | rfl | simp,HX,bel2 _ _ _⟩
 ·have h1 : 0 < n:=by omega
  have h2:n≤3000:=by omega
  have h3:(F (n - 1)).a.k=1:=by
   rcases Classical.em ((F (n - 1)).a.k=1) with e | e
   ·exact e
   ·exact absurd (Or.inr (Or.inr ⟨h1,e⟩)) h0
  have HP:Hid (0 < n∧n≤3000∧(F (n - 1)).a.k=1):=(⟨h1,h2,h3⟩:_∧_∧_)
  obtain ⟨c,rfl,hcc,hrc⟩:=hf2 h1
  have HRC:Hid (∀ i,i < n→FormC w (c.add (i*10)) (F i)):=hrc
  obtain ⟨vn,vk,hc,_,_⟩:=(hrc (n - 1) (by omega)).below ((by rw [hW2] at hb2;exact hb2):Below w.heap.size w ((w.alloc (.cells #[.slice (some c) n cf] 56)).alloc (.cells #[.int .i64 0,.int .i64 0] 52)))
  obtain ⟨m,hm⟩:∃ m:Nat,m=n - 1:=⟨_,rfl⟩
  have HM:Hid (m=n - 1):=hm
  rw [← hm] at hc h3
  have hm1:(n:Int) - 1=(m:Int):=by omega
  have hm2:(m:Int) < (n:Int):=by omega
  have g0':((n:Int) == 0)=false:=bne (by omega)
  have g1':¬ 3000 < (n:Int):=by omega
  have hk':((F m).a.k != 1)=false:=by rw [h3];rfl
  obtain ⟨d0,d1,d2,d3,d4,d5,d6,d7,d8,d9⟩:=hc
  clear hf2 h0 hrc hm h3 d1 d2 d3 d4 d5 d6 d7 d8 d9 hs2 hb2 h2
  go_enter Tryz.func28,Tryz.ntmps28
  go_wp2_with fail
  rw [← hW2]
  clear hW2 d0 g0' g1' hk'
  go_loopw [39] (fun sr wr=>∃ i:Nat,sr = .int .i64 (i:Int)∧i≤n∧Hid (Rs wr w.heap.size (.slice (some c) n cf)∧Below w.heap.size w wr∧∀ j,j < i→ndk nm fl F j)) (fun sr _=>n - (intOf sr).toNat)
  case atStart=>exact ⟨0,rfl,Nat.zero_le _,(⟨HS2.1,HS2.2,fun j hj=>by omega⟩:_∧_∧_)⟩
  case round =>
   clear HS2
   obtain ⟨i,rfl,hin,HI⟩:=hrel
   obtain ⟨hr,hb,ha⟩:=(show Rs wr w.heap.size (.slice (some c) n cf)∧Below w.heap.size w wr∧∀ j,j < i→ndk nm fl F j from HI)
   obtain ⟨o1,o2,o3,o4,o5⟩:=(show NmS nm∧(∀ i,i < n→(F i).a.g < 18446744073709551616)∧n≤1048576∧(∀ i,i < n→(F i).p≤1048576)∧(∀ i,i < n→(F i).q≤1048576) from HO)
   have c0:=hr.ct
   rcases Nat.lt_or_ge i n with hi | hi
   ·have hiI:(i:Int) < (n:Int):=by omega
    have HC:Hid (Calls Tryz.prog 58 #[.agg #[.slice (some c) n cf],.int .i64 (i:Int)] wr fun e w'=>e = .returned (.bool (dc (ndk nm fl F i)))∧Below wr.heap.size wr w'):=sp_node o1 wr ((show RowF w _ n F from HF).below hb) i hi o3 (o4 i hi) (o5 i hi) (o2 i hi)
    clear hr hb ha o1 o2 o3 o4 o5
    go_wp2_with fail
    refine (show Calls Tryz.prog 58 #[.agg #[.slice (some c) n cf],.int .i64 (i:Int)] wr fun e w'=>e = .returned (.bool (dc (ndk nm fl F i)))∧Below wr.heap.size wr w' from HC).mono ?_
    rintro e w1 ⟨rfl,b1⟩
    obtain ⟨hr,hb,ha⟩:=(show Rs wr w.heap.size (.slice (some c) n cf)∧Below w.heap.size w wr∧∀ j,j < i→ndk nm fl F j from HI)
    have hr1:=hr.below b1
    have hb1:Below w.heap.size w w1:=hb.trans (b1.mono hb.size)
    clear HI HC c0
    by_cases hd:ndk nm fl F i
    ·rw [dc_t hd]
     have HX:Hid (Rs w1 w.heap.size (.slice (some c) n cf)∧Below w.heap.size w w1∧∀ j,j < i+1→ndk nm fl F j):=(⟨hr1,hb1,fun j hj=>by
      by_cases e:j=i
      ·rw [e];exact hd
      ·exact ha j (by omega)⟩:_∧_∧_)
     clear hr hb ha hr1 hb1 b1 hd
     go_wp2_with fail
     go_roundw
     case rel=>exact ⟨i+1,by go_num,by omega,HX⟩
     case measure=>simp [intOf];omega
    ·rw [dc_f hd]
     have HX:Hid (Fl nm fl F n 2 (i:Int)∧Below w.heap.size w ((w1.setCell ⟨w.heap.size+1,0,none⟩ (.int .i64 2)).setCell ⟨w.heap.size+1,1,none⟩ (.int .i64 (i:Int)))):=(⟨Fl.shape i HP.1 HP.2.1 HP.2.2 hi ha hd,(hr1.ret hb1 2 (i:Int)).2.2⟩:_∧_)
     have e0:=(hr1.ret hb1 2 (i:Int)).1
     have e1:=(hr1.ret hb1 2 (i:Int)).2.1
     have c1:=hr1.r0
     have c2:=hr1.r1
     have c3:=hr1.z0
     have c4:=hr1.z1
     clear hr hb ha hr1 hb1 b1 hd
     go_wp2_with fail
     refine bodyPost_ret (by simp [results,Tryz.results28,go_sem,e0,e1];rfl) rfl ?_
     exact ⟨2,(i:Int),rfl,HX.1,HX.2⟩
   ·have ei:i=n:=by omega
    rw [ei] at ha ⊢
    clear HI
    have HK:Hid (Kn F n):=(fun i hi=>(ha i hi).2.2.2.2.1:∀ i,i < n→∀ j,j < (F i).q→0≤(F i).K j∧(F i).K j < (i:Int))
    have HC:Hid (Calls Tryz.prog 59 #[.agg #[.slice (some c) n cf]] wr fun e w'=>∃ u g,e = .returned u∧OwnR w' u g n (fun k=>.int .i64 (szl F n k))∧Below wr.heap.size wr w'∧wr.heap.size≤g∧g < w'.heap.size):=sp_sizes wr ((show RowF w _ n F from HF).below hb) o3 HK o5
    have HI:Hid (Rs wr w.heap.size (.slice (some c) n cf)∧Below w.heap.size w wr∧∀ j,j < n→ndk nm fl F j):=(⟨hr,hb,ha⟩:_∧_∧_)
    clear hr hb ha o1 o2 o3 o4 o5 hi ei hin
    go_wp2_with fail
    refine (show Calls Tryz.prog 59 #[.agg #[.slice (some c) n cf]] wr fun e w'=>∃ u g,e = .returned u∧OwnR w' u g n (fun k=>.int .i64 (szl F n k))∧Below wr.heap.size wr w'∧wr.heap.size≤g∧g < w'.heap.size from HC).mono ?_
    rintro e w3 ⟨u,g,rfl,hu,b3,hg1,hg2⟩
    obtain ⟨hr,hb,ha⟩:=(show Rs wr w.heap.size (.slice (some c) n cf)∧Below w.heap.size w wr∧∀ j,j < n→ndk nm fl F j from HI)
    have hr3:=hr.below b3
    have hb3:Below w.heap.size w w3:=hb.trans (b3.mono hb.size)
    have HI3:Hid (Rs w3 w.heap.size (.slice (some c) n cf)∧Below w.heap.size w w3∧∀ j,j < n→ndk nm fl F j):=(⟨hr3,hb3,ha⟩:_∧_∧_)
    obtain ⟨pu,cu,rfl,hu2⟩:=hu.sl
    obtain ⟨rfl,hcu⟩:=hu2 h1
    have HU:Hid (∀ i,i < n→w3.cell? ⟨g,i,none⟩=some (.int .i64 (szl F n i))):=hu.cell
    have hcuI:(n:Int)≤(cu:Int):=by omega
    clear HI HC c0 hr hb ha hr3 hb3 b3 hu hu2 hg1 hg2
    go_wp2_with fail
    go_loopw [53] (fun sr wv=>∃ i:Nat,sr = .int .i64 (i:Int)∧i≤n∧wv=w3∧Hid (∀ j,j < i→szl F n j ≠ 0)) (fun sr _=>n - (intOf sr).toNat)
    case atStart=>exact ⟨0,rfl,Nat.zero_le _,rfl,(fun j hj=>by omega:∀ j,j < 0→szl F n j ≠ 0)⟩
    case round =>
     obtain ⟨i,rfl,hin,rfl,HZ⟩:=hrel
     rcases Nat.lt_or_ge i n with hi | hi
     ·have hiI:(i:Int) < (n:Int):=by omega
      have q0:=(show ∀ i,i < n→wr.cell? ⟨g,i,none⟩=some (.int .i64 (szl F n i)) from HU) i hi
      by_cases hz:szl F n i=0
      ·have hz':(szl F n i == 0)=true:=beq1 hz
       obtain ⟨hr1,hb1,ha⟩:=(show Rs wr w.heap.size (.slice (some c) n cf)∧Below w.heap.size w wr∧∀ j,j < n→ndk nm fl F j from HI3)
       have HX:Hid (Fl nm fl F n 3 (i:Int)∧Below w.heap.size w ((wr.setCell ⟨w.heap.size+1,0,none⟩ (.int .i64 3)).setCell ⟨w.heap.size+1,1,none⟩ (.int .i64 (i:Int)))):=(⟨Fl.order i HP.1 HP.2.1 HP.2.2 ha hi HZ hz,(hr1.ret hb1 3 (i:Int)).2.2⟩:_∧_)
       have e0:=(hr1.ret hb1 3 (i:Int)).1
       have e1:=(hr1.ret hb1 3 (i:Int)).2.1
       have c1:=hr1.r0
       have c2:=hr1.r1
       have c3:=hr1.z0
       have c4:=hr1.z1
       clear hr1 hb1 ha hz HZ HU
       generalize szl F n i=z at *
       go_wp2_with fail
       refine bodyPost_ret (by simp [results,Tryz.results28,go_sem,e0,e1];rfl) rfl ?_
       exact ⟨3,(i:Int),rfl,HX.1,HX.2⟩
      ·have hz':(szl F n i == 0)=false:=bne hz
       have HX:Hid (∀ j,j < i+1→szl F n j ≠ 0):=(fun j hj=>by
        by_cases e:j=i
        ·rw [e];exact hz
        ·exact HZ j (by omega):∀ j,j < i+1→szl F n j ≠ 0)
       clear hz HZ HU
       generalize szl F n i=z at *
       go_wp2_with fail
       go_roundw
       case rel=>exact ⟨i+1,by go_num,by omega,by trivial,HX⟩
       case measure=>simp [intOf];omega
     ·have ei:i=n:=by omega
      have HZ2:Hid (∀ j,j < n→szl F n j ≠ 0):=(fun j hj=>HZ j (by omega):∀ j,j < n→szl F n j ≠ 0)
      have hm':=(show m=n - 1 from HM)
      have q0:=(show ∀ i,i < n→wr.cell? ⟨g,i,none⟩=some (.int .i64 (szl F n i)) from HU) m (by omega)
      rw [ei]
      clear HZ hi ei hin HU hm'
      by_cases hz:szl F n m=(n:Int)
      ·have hz':(szl F n m != (n:Int))=false:=by rw [hz];simp
       have HZ3:Hid (szl F n (n - 1)=(n:Int)):=by rw [← show m=n - 1 from HM];exact hz
       rw [hz] at q0
       clear hz hz'
       have hnn:((n:Int) != (n:Int))=false:=by simp
       obtain ⟨hr1,hb1,ha⟩:=(show Rs wr w.heap.size (.slice (some c) n cf)∧Below w.heap.size w wr∧∀ j,j < n→ndk nm fl F j from HI3)
       have hct:=hr1.ct
       have hmk:=run_make (P:=Tryz.prog) wr 36 3 Tryz.t3 (.int .i64 0) Tryz.underlying36 (by kernel_rfl) (by kernel_rfl) .i64 .i64 (n:Int) (n:Int) (by omega) (Int.le_refl _) (by show (8:Int)*(n:Int)≤_;omega) (by omega)
       rw [Int.toNat_natCast] at hmk
       obtain ⟨w4,hw4⟩:∃ w4,w4=wr.alloc (.cells (madeCells (.int .i64 0:Value).cells (n*Tryz.t3.size)) 3):=⟨_,rfl⟩
       rw [← hw4] at hmk
       obtain ⟨G,hG⟩:∃ G,G=wr.heap.size:=⟨_,rfl⟩
       have b4:Below wr.heap.size wr w4:=by rw [hw4];exact bel1 _ _
       have hl:w.heap.size+1 < wr.heap.size:=lt_of_cell hr1.r0
       have HI4:Hid (Rs w4 w.heap.size (.slice (some c) n cf)∧Below w.heap.size w w4∧w.heap.size+1 < G∧Dv w4 G n (dpr F n 0) w4∧∀ j,j < n→ndk nm fl F j):=(⟨hr1.below b4,hb1.trans (b4.mono hb1.size),by omega,⟨Kq.refl _ _,fun j hj=>by rw [hw4,hG];exact made_cell wr _ 3 n rfl j hj,fun j=>by rw [hw4,hG];exact made_fz _ _ _ _⟩,ha⟩:_∧_∧_∧_∧_)
       have hct4:=(hr1.below b4).ct
       rw [← hG] at hmk
       clear hr1 hb1 ha b4 hw4 hl HI3 hG
       go_wp2_with fail
       clear hmk hct q0 hnn hct4
       go_loopw [8] (fun sr wv=>∃ k:Nat,sr = .int .i64 ((k:Int) - 1)∧k≤n∧Hid (Dv w4 G n (dpr F n (n - k)) wv)) (fun sr _=>((intOf sr)+1).toNat)
       case atStart=>exact ⟨n,by first | rfl | rw [hm1],Nat.le_refl _,by rw [Nat.sub_self];exact HI4.2.2.2.1⟩
       case round =>
        obtain ⟨k,rfl,hkn,HD⟩:=hrel
        obtain ⟨hr4,hb4,hg4,_,ha⟩:=(show Rs w4 w.heap.size (.slice (some c) n cf)∧Below w.heap.size w w4∧w.heap.size+1 < G∧Dv w4 G n (dpr F n 0) w4∧∀ j,j < n→ndk nm fl F j from HI4)
        have hD:=(show Dv w4 G n (dpr F n (n - k)) wr from HD)
        have hrW:=hr4.kq hD.kq hg4
        have hbW:=hD.low hb4 (by omega)
        have hct:=hrW.ct
        cases k with
        | succ k =>
         rw [show (((k+1:Nat):Int) - 1)=(k:Int) from by omega]
         have hkI:(k:Int) < (n:Int):=by omega
         obtain ⟨vn,vk,hc,_,hrk⟩:=(show ∀ i,i < n→FormC w (c.add (i*10)) (F i) from HRC) k (by omega)
         obtain ⟨pk,ck,rfl,hk2⟩:=hrk
         obtain ⟨d0,d1,d2,d3,d4,d5,d6,d7,d8,d9⟩:=hc.below hbW
         have hqI:((F k).q:Int)≤1048576:=by have:=(ha k (by omega)).2.2.2.1;omega
         have HKC:Hid (∀ j,j < (F k).q→0≤(F k).K j∧(F k).K j < (k:Int)∧∃ b:Addr,pk=some b∧(F k).q≤ck∧∀ W',Below w.heap.size w W'→W'.cell? (b.add j)=some (.int .i64 ((F k).K j))):=(fun j hj=>by
          obtain ⟨b,rfl,h1,h2⟩:=hk2 (by omega)
          have h3:=(ha k (by omega)).2.2.2.2.1 j hj
          exact ⟨h3.1,h3.2,b,rfl,h1,fun W' hb=>(hb.cell (lt_of_cell' (h2 j hj))).trans (h2 j hj)⟩:∀ j,_)
         obtain ⟨D,hDe⟩:∃ D,D=dpr F n (n - (k+1)):=⟨_,rfl⟩
         rw [← hDe] at hD
         have hDk : 0≤D k∧D k≤3000:=by
          rw [hDe]
          have:=dpr_in F n (n - (k+1)) k
          have:=HP.2.1
          omega
         have HN:Hid (∀ wv,Dv w4 G n (upd D (F k).K (D k+1) (F k).q) wv→Dv w4 G n (dpr F n (n - k)) wv):=(fun wv h=>by
          have e1:n - k=(n - (k+1))+1:=by omega
          have e2:n - 1 - (n - (k+1))=k:=by omega
          have e3:dpr F n (n - k)=upd D (F k).K (D k+1) (F k).q:=by
           rw [e1]
           funext x
           show upd (dpr F n (n - (k+1))) (F (n - 1 - (n - (k+1)))).K (dpr F n (n - (k+1)) (n - 1 - (n - (k+1)))+1) (F (n - 1 - (n - (k+1)))).q x = _
           rw [e2,← hDe]
          rw [e3];exact h:∀ wv,_)
         have HD0:Hid (Dv w4 G n (upd D (F k).K (D k+1) 0) wr):=hD
         have HL:Hid (k+1≤n):=hkn
         have HB4:Hid (Below w.heap.size w w4∧w.heap.size+1 < G):=(⟨hb4,hg4⟩:_∧_)
         clear hr4 hb4 hg4 ha hD hrW hbW hc hk2 hkn HD hDe d0 d1 d2 d3 d4 d5 d6 d7 d8
         go_wp2_with fail
         clear d9 hct
         go_loopw [95] (fun sr wv=>∃ j:Nat,sr = .int .i64 (j:Int)∧j≤(F k).q∧Hid (Dv w4 G n (upd D (F k).K (D k+1) j) wv)) (fun sr _=>(F k).q - (intOf sr).toNat)
         case atStart=>exact ⟨0,rfl,Nat.zero_le _,HD0⟩
         case round =>
          clear HD0
          obtain ⟨j,rfl,hjq,HJ⟩:=hrel
          have hJ:=(show Dv w4 G n (upd D (F k).K (D k+1) j) wr from HJ)
          rcases Nat.lt_or_ge j (F k).q with hj | hj
          ·have hjI:(j:Int) < ((F k).q:Int):=by omega
           obtain ⟨k0,k1,b,rfl,hcb,kc⟩:=(show ∀ j,j < (F k).q→0≤(F k).K j∧(F k).K j < (k:Int)∧∃ b:Addr,pk=some b∧(F k).q≤ck∧∀ W',Below w.heap.size w W'→W'.cell? (b.add j)=some (.int .i64 ((F k).K j)) from HKC) j hj
           have q0:=kc wr (hJ.low HB4.1 (by have:=HB4.2;omega))
           obtain ⟨x,hx⟩:∃ x:Nat,(F k).K j=(x:Int):=⟨((F k).K j).toNat,by omega⟩
           rw [hx] at q0
           have q1:=hJ.cell k (by omega)
           rw [upd_far j (fun j' hj'=>((show ∀ j,j < (F k).q→0≤(F k).K j∧(F k).K j < (k:Int)∧∃ b':Addr,some b=some b'∧(F k).q≤ck∧∀ W',Below w.heap.size w W'→W'.cell? (b'.add j)=some (.int .i64 ((F k).K j)) from HKC) j' (by omega)).2.1)] at q1
           have q2:=hJ.cell x (by omega)
           have q3:=hJ.fz x
           have hxn:(x:Int) < (n:Int):=by omega
           have HX:Hid (Dv w4 G n (upd D (F k).K (D k+1) (j+1)) (wr.setCell ⟨G,x,none⟩ (.int .i64 (D k+1)))):=hJ.set x (by omega) (D k+1) _ (fun y hy=>by
            show (if (y:Int)=(F k).K j then D k+1 else upd D (F k).K (D k+1) j y) = _
            rw [hx]
            by_cases e:y=x
            ·rw [if_pos (by omega),if_pos e]
            ·rw [if_neg (by omega),if_neg e])
           clear hJ HJ kc k0 k1 hx HKC HN
           generalize D k=z at *
           generalize upd D (F k).K (z+1) j x=z2 at *
           go_wp2_with fail
           go_roundw
           case rel=>exact ⟨j+1,by go_num,by omega,HX⟩
           case measure=>simp [intOf];omega
          ·have ej:j=(F k).q:=by omega
           have HX:Hid (Dv w4 G n (dpr F n (n - k)) wr):=HN wr (by rw [← ej];exact HJ)
           rw [ej]
           clear hJ HJ HKC HN ej hj hjq
           go_wp2_with fail
           go_roundw
           case rel=>exact ⟨k,by first | rfl | go_num,by have:=(show k+1≤n from HL);omega,HX⟩
           case measure=>simp [intOf]
        | zero =>
         rw [show (((0:Nat):Int) - 1) = -1 from rfl]
         have HI5:Hid (Rs wr w.heap.size (.slice (some c) n cf)∧Below w.heap.size w wr∧∀ j,j < n→ndk nm fl F j):=(⟨hrW,hbW,ha⟩:_∧_∧_)
         have HU5:Hid (∀ i,i < n→wr.cell? ⟨G,i,none⟩=some (.int .i64 (dpr F n n i))):=hD.cell
         clear hr4 hb4 hg4 ha hD hrW hbW HD hkn HI4
         go_wp2_with fail
         clear hct
         obtain ⟨w5,hw5⟩:∃ w5,w5=wr:=⟨_,rfl⟩
         rw [← hw5]
         rw [← hw5] at HI5 HU5
         clear hw5
         go_loopw [110] (fun sr wv=>∃ i:Nat,sr = .int .i64 (i:Int)∧i≤n∧wv=w5∧Hid (∀ j,j < i→dpr F n n j≤100)) (fun sr _=>n - (intOf sr).toNat)
         case atStart=>exact ⟨0,rfl,Nat.zero_le _,rfl,(fun j hj=>by omega:∀ j,j < 0→dpr F n n j≤100)⟩
         case round =>
          obtain ⟨i,rfl,hin,rfl,HZ⟩:=hrel
          obtain ⟨hr1,hb1,ha⟩:=(show Rs wr w.heap.size (.slice (some c) n cf)∧Below w.heap.size w wr∧∀ j,j < n→ndk nm fl F j from HI5)
          have c1:=hr1.r0
          have c2:=hr1.r1
          have c3:=hr1.z0
          have c4:=hr1.z1
          rcases Nat.lt_or_ge i n with hi | hi
          ·have hiI:(i:Int) < (n:Int):=by omega
           have q0:=(show ∀ i,i < n→wr.cell? ⟨G,i,none⟩=some (.int .i64 (dpr F n n i)) from HU5) i hi
           rcases Int.lt_or_le 100 (dpr F n n i) with hz | hz
           ·have HX:Hid (Fl nm fl F n 4 (i:Int)∧Below w.heap.size w ((wr.setCell ⟨w.heap.size+1,0,none⟩ (.int .i64 4)).setCell ⟨w.heap.size+1,1,none⟩ (.int .i64 (i:Int)))):=(⟨Fl.depth i HP.1 HP.2.1 HP.2.2 ha HZ2 HZ3 hi HZ hz,(hr1.ret hb1 4 (i:Int)).2.2⟩:_∧_)
            have e0:=(hr1.ret hb1 4 (i:Int)).1
            have e1:=(hr1.ret hb1 4 (i:Int)).2.1
            clear hr1 hb1 ha HZ HU5
            generalize dpr F n n i=z at *
            go_wp2_with fail
            refine bodyPost_ret (by simp [results,Tryz.results28,go_sem,e0,e1];rfl) rfl ?_
            exact ⟨4,(i:Int),rfl,HX.1,HX.2⟩
           ·have hz':¬ 100 < dpr F n n i:=by omega
            have HX:Hid (∀ j,j < i+1→dpr F n n j≤100):=(fun j hj=>by
             by_cases e:j=i
             ·rw [e];exact hz
             ·exact HZ j (by omega):∀ j,j < i+1→dpr F n n j≤100)
            clear hr1 hb1 ha HZ HU5 c1 c2 c3 c4
            generalize dpr F n n i=z at *
            go_wp2_with fail
            go_roundw
            case rel=>exact ⟨i+1,by go_num,by omega,by trivial,HX⟩
            case measure=>simp [intOf];omega
          ·have ei:i=n:=by omega
           have HX:Hid (Fl nm fl F n 0 0∧Below w.heap.size w ((wr.setCell ⟨w.heap.size+1,0,none⟩ (.int .i64 0)).setCell ⟨w.heap.size+1,1,none⟩ (.int .i64 0))):=(⟨Fl.sound HP.1 HP.2.1 HP.2.2 ha HZ2 HZ3 (fun j hj=>HZ j (by omega)),(hr1.ret hb1 0 0).2.2⟩:_∧_)
           have e0:=(hr1.ret hb1 0 0).1
           have e1:=(hr1.ret hb1 0 0).2.1
           rw [ei]
           clear hr1 hb1 ha HZ HU5 ei hin hi
           go_wp2_with fail
           refine bodyPost_ret (by simp [results,Tryz.results28,go_sem,e0,e1];rfl) rfl ?_
           exact ⟨0,0,rfl,HX.1,HX.2⟩
      ·have hz':(szl F n m != (n:Int))=true:=bne_iff_ne.2 hz
       obtain ⟨hr1,hb1,ha⟩:=(show Rs wr w.heap.size (.slice (some c) n cf)∧Below w.heap.size w wr∧∀ j,j < n→ndk nm fl F j from HI3)
       have HX:Hid (Fl nm fl F n 3 (m:Int)∧Below w.heap.size w ((wr.setCell ⟨w.heap.size+1,0,none⟩ (.int .i64 3)).setCell ⟨w.heap.size+1,1,none⟩ (.int .i64 (m:Int)))):=(⟨by rw [← hm1];exact Fl.whole HP.1 HP.2.1 HP.2.2 ha HZ2 (by rw [← show m=n - 1 from HM];exact hz),(hr1.ret hb1 3 (m:Int)).2.2⟩:_∧_)
       have e0:=(hr1.ret hb1 3 (m:Int)).1
       have e1:=(hr1.ret hb1 3 (m:Int)).2.1
       have c1:=hr1.r0
       have c2:=hr1.r1
       have c3:=hr1.z0
       have c4:=hr1.z1
       clear hr1 hb1 ha hz
       generalize szl F n m=z at *
       go_wp2_with fail
       refine bodyPost_ret (by simp [results,Tryz.results28,go_sem,e0,e1];rfl) rfl ?_
       exact ⟨3,(m:Int),rfl,HX.1,HX.2⟩
end Go.Proofs.YtomcmnompajnlaaGreatDoor.Fo.Po
