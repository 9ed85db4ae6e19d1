import Derived.Test.YtomcmnompajnlaaGreatDoorTXZid
import Derived.Test.YtomcmnompajnlaaGreatDoorTXZia
import Derived.Test.YtomcmnompajnlaaGreatDoorBSpy
import Derived.Test.YtomcmnompajnlaaGreatDoorBSpf
import Derived.Test.YtomcmnompajnlaaGreatDoorBSpe
import Derived.Test.YtomcmnompajnlaaGreatDoorBTud
import Derived.Test.YtomcmnompajnlaaGreatDoorBSkm
import Derived.Test.YtomcmnompajnlaaGreatDoorBBab
import Derived.Test.YtomcmnompajnlaaGreatDoorBBaa
import Derived.Test.YtomcmnompajnlaaGreatDoorProg
import GoSem.Claim
import GoSem.ClaimJoined
import GoSem.ClaimMapViews
import Derived.JoinedTies
import Derived.KernelRfl
import Derived.WalkKit
import Derived.ProofKit
import Derived.OpenShut
import Derived.Handy
import Derived.Laws.Strings3
import Derived.Lib.Strings
import Derived.Laws.OwnMore
import Derived.Laws.IdiomStrings
import Derived.Lib.UnsafeStr
import Derived.Deep.QuietTactic
import Derived.BigQuiet
import Derived.Deep.AppendLies
import Derived.Deep.RegionHeldLaw
import Derived.Deep.CutBlock
import Derived.Laws.MakeOwn
import Derived.OwnWalk
import Derived.WalkSpells
import Derived.Deep.Slices
import Derived.SizedLaws
import Derived.Carry
import Derived.Test.YtomcmnompajnlaaGreatDoorBTkc
import Derived.Test.YtomcmnompajnlaaGreatDoorBSdj
import Derived.Test.YtomcmnompajnlaaGreatDoorBSdd
import Derived.Test.YtomcmnompajnlaaGreatDoorBSbk
import Derived.Test.YtomcmnompajnlaaGreatDoorBSda
import Derived.Test.YtomcmnompajnlaaGreatDoorBScc
import Derived.Test.YtomcmnompajnlaaGreatDoorBSbd
import Derived.Test.YtomcmnompajnlaaGreatDoorBRab
import Derived.Test.YtomcmnompajnlaaGreatDoorBShc
import Derived.Test.YtomcmnompajnlaaGreatDoorBQua
import Derived.Deep.MidRow
import Derived.Shelf.Strconv.Clone
import Derived.Lib.ConvBytes
import Derived.Lib.AtoiErrMem
import Derived.Lib.AtoiAllMem
import Derived.Laws.Closers25
import Derived.Laws.Closers25b
import Derived.BigCall
import Derived.BigGuard
import Derived.Lib.IfaceNeq
import Derived.Lib.IfaceEq
import Derived.Deep.RegionWith
import Derived.RangeFuncNested
import Derived.RangeFuncBound
import Derived.RangeFuncCalls
import Derived.RangeFuncLeaves
import Derived.Shelf.Abstract
import Derived.Shelf.RegionOpen
import Derived.OwnWalkIn
import Derived.TacticsInMore
import Derived.LoopNIn
import Derived.LoopIn
import Derived.Maps.AppendAt
import Derived.Lib.BufferRead
import Derived.BigRegion
import Derived.Deep.Cut
import Derived.Deep.Light
import Derived.Test.YtomcmnompajnlaaGreatDoorBQsh
import Derived.Shelf.Strings.Builder1
import Derived.Test.YtomcmnompajnlaaGreatDoorBSpb
import Derived.Test.YtomcmnompajnlaaGreatDoorBSpi
import Derived.RangeFuncFrom
import Derived.RangeFuncBox
import Derived.Test.YtomcmnompajnlaaGreatDoorBSpl
import Derived.Test.YtomcmnompajnlaaGreatDoorTXZSkl
import Derived.Test.YtomcmnompajnlaaGreatDoorTXDuc
import Derived.Test.YtomcmnompajnlaaGreatDoorTXZBaw
set_option maxRecDepth 100000
set_option maxHeartbeats 16000000
namespace Go.Proofs.YtomcmnompajnlaaGreatDoor.Fo.Po
open Go.ChangeShapes Go.WideShapes Go.ChangeAt Go.RowKit
set_option linter.unusedVariables false
set_option linter.unusedSimpArgs false
theorem br_fa (a:Fv) (p:Nat) (x y z t:Bool):br a p x y z t↔Fo.br (fa a) p x y z t∧fz a.g:=by
 unfold br Fo.br fa
 constructor
 ·rintro ⟨h1,h2,h3,h4,h5⟩
  exact ⟨⟨h1,h2,h4,h5⟩,h3⟩
 ·rintro ⟨⟨h1,h2,h4,h5⟩,h3⟩
  exact ⟨h1,h2,h3,h4,h5⟩
theorem fz_0:fz 0:=by unfold fz;decide +kernel
theorem shk_fa {nm fl:ByteArray→Prop} (F:Nat→Gv) (a:Fv) (p:Nat) (A:Nat→ByteArray) (q:Nat) (K:Nat→Int):shk nm fl F a p A q K↔Fo.shk nm flE (frm F) (fa a) p A q K∧ftk a:=by
 have hx:Fo.ex (frm F)=ex F:=rfl
 have hkd:Fo.kdk (frm F)=kdk F:=rfl
 by_cases h24:a.k=24
 ·have h24':(fa a).k=24:=h24
  have hf:ftk a↔fn a.g:=⟨fun h=>h.1 h24,fun h=>⟨fun _=>h,fun e=>absurd h24 e⟩⟩
  rw [hf]
  unfold shk Fo.shk
  simp only [h24,h24']
  simp [flE,br,Fo.br,fz_0,fa]
  constructor
  ·rintro ⟨h1,⟨h2,h3,h4,h5⟩,h6⟩
   simp_all
  ·rintro ⟨⟨h1,⟨h2,h3,h4⟩,h5⟩,h6⟩
   simp_all
 ·have hf:ftk a↔fz a.g:=⟨fun h=>h.2 h24,fun h=>⟨fun e=>absurd e h24,fun _=>h⟩⟩
  rw [hf]
  unfold shk Fo.shk
  by_cases h:a.k=1
  ·rw [if_pos h,if_pos (show (fa a).k=1 from h)]
   simp only [br_fa,hx,hkd]
   dsimp only [fa]
   simp only [and_assoc,and_comm,and_left_comm]
  rw [if_neg h,if_neg (show ¬ (fa a).k=1 from h)]
  clear h
  by_cases h:a.k=2
  ·rw [if_pos h,if_pos (show (fa a).k=2 from h)]
   simp only [br_fa,hx,hkd]
   dsimp only [fa]
   simp only [and_assoc,and_comm,and_left_comm]
  rw [if_neg h,if_neg (show ¬ (fa a).k=2 from h)]
  clear h
  by_cases h:a.k=3
  ·rw [if_pos h,if_pos (show (fa a).k=3 from h)]
   simp only [br_fa,hx,hkd]
   dsimp only [fa]
   simp only [and_assoc,and_comm,and_left_comm]
  rw [if_neg h,if_neg (show ¬ (fa a).k=3 from h)]
  clear h
  by_cases h:a.k=4
  ·rw [if_pos h,if_pos (show (fa a).k=4 from h)]
   simp only [br_fa,hx,hkd]
   dsimp only [fa]
   simp only [and_assoc,and_comm,and_left_comm]
  rw [if_neg h,if_neg (show ¬ (fa a).k=4 from h)]
  clear h
  by_cases h:a.k=5
  ·rw [if_pos h,if_pos (show (fa a).k=5 from h)]
   simp only [br_fa,hx,hkd]
   dsimp only [fa]
   simp only [and_assoc,and_comm,and_left_comm]
  rw [if_neg h,if_neg (show ¬ (fa a).k=5 from h)]
  clear h
  by_cases h:a.k=6
  ·rw [if_pos h,if_pos (show (fa a).k=6 from h)]
   simp only [br_fa,hx,hkd]
   dsimp only [fa]
   simp only [and_assoc,and_comm,and_left_comm]
  rw [if_neg h,if_neg (show ¬ (fa a).k=6 from h)]
  clear h
  by_cases h:a.k=7
  ·rw [if_pos h,if_pos (show (fa a).k=7 from h)]
   simp only [br_fa,hx,hkd]
   dsimp only [fa]
   simp only [and_assoc,and_comm,and_left_comm]
  rw [if_neg h,if_neg (show ¬ (fa a).k=7 from h)]
  clear h
  by_cases h:a.k=8
  ·rw [if_pos h,if_pos (show (fa a).k=8 from h)]
   simp only [br_fa,hx,hkd]
   dsimp only [fa]
   simp only [and_assoc,and_comm,and_left_comm]
  rw [if_neg h,if_neg (show ¬ (fa a).k=8 from h)]
  clear h
  by_cases h:a.k=9
  ·rw [if_pos h,if_pos (show (fa a).k=9 from h)]
   simp only [br_fa,hx,hkd]
   dsimp only [fa]
   simp only [and_assoc,and_comm,and_left_comm]
  rw [if_neg h,if_neg (show ¬ (fa a).k=9 from h)]
  clear h
  by_cases h:a.k=10
  ·rw [if_pos h,if_pos (show (fa a).k=10 from h)]
   simp only [br_fa,hx,hkd]
   dsimp only [fa]
   simp only [and_assoc,and_comm,and_left_comm]
  rw [if_neg h,if_neg (show ¬ (fa a).k=10 from h)]
  clear h
  by_cases h:a.k=11
  ·rw [if_pos h,if_pos (show (fa a).k=11 from h)]
   simp only [br_fa,hx,hkd]
   dsimp only [fa]
   simp only [and_assoc,and_comm,and_left_comm]
  rw [if_neg h,if_neg (show ¬ (fa a).k=11 from h)]
  clear h
  by_cases h:a.k=12
  ·rw [if_pos h,if_pos (show (fa a).k=12 from h)]
   simp only [br_fa,hx,hkd]
   dsimp only [fa]
   simp only [and_assoc,and_comm,and_left_comm]
  rw [if_neg h,if_neg (show ¬ (fa a).k=12 from h)]
  clear h
  by_cases h:a.k=13
  ·rw [if_pos h,if_pos (show (fa a).k=13 from h)]
   simp only [br_fa,hx,hkd]
   dsimp only [fa]
   simp only [and_assoc,and_comm,and_left_comm]
  rw [if_neg h,if_neg (show ¬ (fa a).k=13 from h)]
  clear h
  by_cases h:a.k=14
  ·rw [if_pos h,if_pos (show (fa a).k=14 from h)]
   simp only [br_fa,hx,hkd]
   dsimp only [fa]
   simp only [and_assoc,and_comm,and_left_comm]
  rw [if_neg h,if_neg (show ¬ (fa a).k=14 from h)]
  clear h
  by_cases h:a.k=15
  ·rw [if_pos h,if_pos (show (fa a).k=15 from h)]
   simp only [br_fa,hx,hkd]
   dsimp only [fa]
   simp only [and_assoc,and_comm,and_left_comm]
  rw [if_neg h,if_neg (show ¬ (fa a).k=15 from h)]
  clear h
  by_cases h:a.k=16
  ·rw [if_pos h,if_pos (show (fa a).k=16 from h)]
   simp only [br_fa,hx,hkd]
   dsimp only [fa]
   simp only [and_assoc,and_comm,and_left_comm]
  rw [if_neg h,if_neg (show ¬ (fa a).k=16 from h)]
  clear h
  by_cases h:a.k=20
  ·rw [if_pos h,if_pos (show (fa a).k=20 from h)]
   simp only [br_fa,hx,hkd]
   dsimp only [fa]
   simp only [and_assoc,and_comm,and_left_comm]
  rw [if_neg h,if_neg (show ¬ (fa a).k=20 from h)]
  clear h
  by_cases h:a.k=21
  ·rw [if_pos h,if_pos (show (fa a).k=21 from h)]
   simp only [br_fa,hx,hkd]
   dsimp only [fa]
   simp only [and_assoc,and_comm,and_left_comm]
  rw [if_neg h,if_neg (show ¬ (fa a).k=21 from h)]
  clear h
  by_cases h:a.k=22
  ·rw [if_pos h,if_pos (show (fa a).k=22 from h)]
   simp only [br_fa,hx,hkd]
   dsimp only [fa]
   simp only [and_assoc,and_comm,and_left_comm]
  rw [if_neg h,if_neg (show ¬ (fa a).k=22 from h)]
  clear h
  by_cases h:a.k=23
  ·rw [if_pos h,if_pos (show (fa a).k=23 from h)]
   simp only [br_fa,hx,hkd]
   dsimp only [fa]
   simp only [and_assoc,and_comm,and_left_comm]
  rw [if_neg h,if_neg (show ¬ (fa a).k=23 from h)]
  clear h
  rw [if_neg h24,if_neg (show ¬ (fa a).k=24 from h24)]
  by_cases h:a.k=25
  ·rw [if_pos h,if_pos (show (fa a).k=25 from h)]
   simp only [br_fa,hx,hkd]
   dsimp only [fa]
   simp only [and_assoc,and_comm,and_left_comm]
  rw [if_neg h,if_neg (show ¬ (fa a).k=25 from h)]
  clear h
  by_cases h:a.k=26
  ·rw [if_pos h,if_pos (show (fa a).k=26 from h)]
   simp only [br_fa,hx,hkd]
   dsimp only [fa]
   simp only [and_assoc,and_comm,and_left_comm]
  rw [if_neg h,if_neg (show ¬ (fa a).k=26 from h)]
  clear h
  by_cases h:a.k=27
  ·rw [if_pos h,if_pos (show (fa a).k=27 from h)]
   simp only [br_fa,hx,hkd]
   dsimp only [fa]
   simp only [and_assoc,and_comm,and_left_comm]
  rw [if_neg h,if_neg (show ¬ (fa a).k=27 from h)]
  clear h
  by_cases h:a.k=28
  ·rw [if_pos h,if_pos (show (fa a).k=28 from h)]
   simp only [br_fa,hx,hkd]
   dsimp only [fa]
   simp only [and_assoc,and_comm,and_left_comm]
  rw [if_neg h,if_neg (show ¬ (fa a).k=28 from h)]
  clear h
  by_cases h:a.k=29
  ·rw [if_pos h,if_pos (show (fa a).k=29 from h)]
   simp only [br_fa,hx,hkd]
   dsimp only [fa]
   simp only [and_assoc,and_comm,and_left_comm]
  rw [if_neg h,if_neg (show ¬ (fa a).k=29 from h)]
  clear h
  by_cases h:a.k=30
  ·rw [if_pos h,if_pos (show (fa a).k=30 from h)]
   simp only [br_fa,hx,hkd]
   dsimp only [fa]
   simp only [and_assoc,and_comm,and_left_comm]
  rw [if_neg h,if_neg (show ¬ (fa a).k=30 from h)]
  clear h
  by_cases h:a.k=31
  ·rw [if_pos h,if_pos (show (fa a).k=31 from h)]
   simp only [br_fa,hx,hkd]
   dsimp only [fa]
   simp only [and_assoc,and_comm,and_left_comm]
  rw [if_neg h,if_neg (show ¬ (fa a).k=31 from h)]
  clear h
  by_cases h:a.k=32
  ·rw [if_pos h,if_pos (show (fa a).k=32 from h)]
   simp only [br_fa,hx,hkd]
   dsimp only [fa]
   simp only [and_assoc,and_comm,and_left_comm]
  rw [if_neg h,if_neg (show ¬ (fa a).k=32 from h)]
  clear h
  by_cases h:a.k=33
  ·rw [if_pos h,if_pos (show (fa a).k=33 from h)]
   simp only [br_fa,hx,hkd]
   dsimp only [fa]
   simp only [and_assoc,and_comm,and_left_comm]
  rw [if_neg h,if_neg (show ¬ (fa a).k=33 from h)]
  clear h
  by_cases h:a.k=34
  ·rw [if_pos h,if_pos (show (fa a).k=34 from h)]
   simp only [br_fa,hx,hkd]
   dsimp only [fa]
   simp only [and_assoc,and_comm,and_left_comm]
  rw [if_neg h,if_neg (show ¬ (fa a).k=34 from h)]
  clear h
  by_cases h:a.k=35
  ·rw [if_pos h,if_pos (show (fa a).k=35 from h)]
   simp only [br_fa,hx,hkd]
   dsimp only [fa]
   simp only [and_assoc,and_comm,and_left_comm]
  rw [if_neg h,if_neg (show ¬ (fa a).k=35 from h)]
  clear h
  by_cases h:a.k=36
  ·rw [if_pos h,if_pos (show (fa a).k=36 from h)]
   simp only [br_fa,hx,hkd]
   dsimp only [fa]
   simp only [and_assoc,and_comm,and_left_comm]
  rw [if_neg h,if_neg (show ¬ (fa a).k=36 from h)]
  clear h
  by_cases h:a.k=37
  ·rw [if_pos h,if_pos (show (fa a).k=37 from h)]
   simp only [br_fa,hx,hkd]
   dsimp only [fa]
   simp only [and_assoc,and_comm,and_left_comm]
  rw [if_neg h,if_neg (show ¬ (fa a).k=37 from h)]
  clear h
  by_cases h:a.k=40
  ·rw [if_pos h,if_pos (show (fa a).k=40 from h)]
   simp only [br_fa,hx,hkd]
   dsimp only [fa]
   simp only [and_assoc,and_comm,and_left_comm]
  rw [if_neg h,if_neg (show ¬ (fa a).k=40 from h)]
  clear h
  by_cases h:a.k=41
  ·rw [if_pos h,if_pos (show (fa a).k=41 from h)]
   simp only [br_fa,hx,hkd]
   dsimp only [fa]
   simp only [and_assoc,and_comm,and_left_comm]
  rw [if_neg h,if_neg (show ¬ (fa a).k=41 from h)]
  clear h
  by_cases h:a.k=42
  ·rw [if_pos h,if_pos (show (fa a).k=42 from h)]
   simp only [br_fa,hx,hkd]
   dsimp only [fa]
   simp only [and_assoc,and_comm,and_left_comm]
  rw [if_neg h,if_neg (show ¬ (fa a).k=42 from h)]
  clear h
  simp
theorem ndk_gok {fl:ByteArray→Prop} (F:Nat→Gv) (i:Nat):ndk nmp fl F i↔gok F i:=by
 unfold ndk gok Fo.ndk
 rw [shk_fa]
 constructor
 ·rintro ⟨h1,h2,h3,h4,h5,⟨h6,h7⟩,h8,h9⟩
  exact ⟨⟨h1,h2,h3,h4,h5,h6⟩,h7,fun h=>by have:=h9 h;omega,h3,h8⟩
 ·rintro ⟨⟨h1,h2,h3,h4,h5,h6⟩,h7,h8⟩
  exact ⟨h1,h2,h3,h4,h5,⟨h6,h7⟩,h8.2.2,fun h=>by have:=h8.1 h;omega⟩
end Go.Proofs.YtomcmnompajnlaaGreatDoor.Fo.Po
namespace Go.Proofs.YtomcmnompajnlaaGreatDoor.Fo.Po
open Go.ChangeShapes Go.WideShapes Go.ChangeAt Go.RowKit
set_option linter.unusedVariables false
theorem rwg_t (k:Int) (q:Nat):(rwg (rwk k q)).t=0∨(rwg (rwk k q)).t=1∨(rwg (rwk k q)).t=3∨(rwg (rwk k q)).t=4:=by
 unfold rwg
 split
 ·exact .inl rfl
 ·exact rwk_t k q
theorem rwg_kh (k:Int) (q:Nat):(rwg (rwk k q)).kh=(rwk k q).kh:=by
 unfold rwg
 split <;> rfl
theorem cts_g {TT FR FK : Nat} (mth : Mth TT FR FK) (eR : ∀ args w, (callFunc FR args).run Tryz.prog w = .ok (.enter FR args) w) (eK : ∀ args w, (callFunc FK args).run Tryz.prog w = .ok (.enter FK args) w) {b : Addr} {n cu : Nat} {F : Nat → Gv} (w : World) (hg : Gd w) (hu : Fo.RowF w (.slice (some b) n cu) n (frm F)) (i : Nat) (hi : i < n) (hn : n ≤ 1048576) (hp : (F i).p ≤ 1048576) (hq : (F i).q ≤ 1048576) (hga : (F i).a.g < 18446744073709551616)
    (hsh:∀ (vn vk:Value) W,Calls Tryz.prog 89 #[Fo.fmv (fa (F i).a) vn vk] W fun e w'=>e = .returned (.iface TT (Fo.fmv (fa (F i).a) vn vk))∧Below W.heap.size W w')
    (hrw:∀ (vn:Value) (pk:Option Addr) (ck:Nat) W,Calls Tryz.prog FR #[Fo.fmv (fa (F i).a) vn (.slice pk (F i).q ck)] W fun e w'=>e = .returned (rwv (rwk (F i).a.k (F i).q))∧Below W.heap.size W w')
    (hkd:∀ (vn:Value) (pk:Option Addr) (ck j:Nat) W,j < (F i).q→((F i).a.k=7→(F i).q≤3)→Calls Tryz.prog FK #[Fo.fmv (fa (F i).a) vn (.slice pk (F i).q ck),.int .i64 (j:Int)] W fun e w'=>e = .returned (.int .i64 (sdk (F i).a.k (F i).a.m (F i).q j))∧Below W.heap.size W w')
    (hln:∀ (pn:Option Addr) (p cn:Nat) (pk:Option Addr) (q ck:Nat) (pn2:Option Addr) (p2 cn2:Nat) (pk2:Option Addr) (q2 ck2:Nat) (w:World),Calls Tryz.prog 93 #[fmv (F i).a (.slice pn p cn) (.slice pk q ck),.iface TT (Fo.fmv (fa (F i).a) (.slice pn2 p2 cn2) (.slice pk2 q2 ck2))] w fun e w'=>e = .returned (.bool (dc (lnk (F i).a)))∧Below w.heap.size w w') :
    Cts w b n cu F i TT:=by
  intro pn pk pn2 pk2 cn ck cn2 ck2 hrn2 hx
  obtain ⟨_,hc2,_⟩:=hx
  refine ⟨fun W=>hsh _ _ W,fun W=>im_grown mth eR _ _ (fun W=>hrw _ pk2 ck2 W) W,fun W hz=>?_,fun W=>im_flt (F i).a hga pn _ cn pk _ ck W,fun W=>hln pn _ cn pk _ ck pn2 _ cn2 pk2 _ ck2 W,fun hal W hz=>?_⟩
  · exact im_allows (rwg (rwk (F i).a.k (F i).q)) (rwg_t _ _) (a:=fa (F i).a) W (hz.gd hg) (hrn2.kz hz) ⟨pk2,ck2,rfl⟩ hp hq
  · have h7 : (F i).a.k = 7 → (F i).q ≤ 3 := fun e => by
      have:=hal.2.1.2
      rw [rwg_kh,e] at this
      have e2:(rwk 7 (F i).q).kh=3:=rfl
      omega
    exact im_fit mth eK (F:=frm F) W (hu.kz hz) i hi hn hq pn2 cn2 pk2 ck2 (fun W j hj=>hkd _ pk2 ck2 j W hj h7) ⟨b,rfl,hc2.kz hz⟩
theorem cts_all {pu : Option Addr} {n cu : Nat} {F : Nat → Gv} (w : World) (hg : Gd w) (hu : Fo.RowF w (.slice pu n cu) n (frm F)) (hn : n ≤ 1048576) (hp : ∀ i, i < n → (F i).p ≤ 1048576) (hq : ∀ i, i < n → (F i).q ≤ 1048576) (hga : ∀ i, i < n → (F i).a.g < 18446744073709551616) :
  ∀ b,pu=some b→∀ i,i < n→(¬ kok (F i).a.k∧∀ (vn vk:Value) W,Calls Tryz.prog 89 #[Fo.fmv (fa (F i).a) vn vk] W fun e w'=>e = .returned .nilIface∧Below W.heap.size W w')∨(kok (F i).a.k∧∃ TT,Cts w b n cu F i TT):=by
 rintro b rfl i hi
 by_cases h1 : 1≤(F i).a.k∧(F i).a.k≤16
 ·exact .inr ⟨.inl h1,_,cts_g mth_s (fun _ _=>by kernel_rfl) (fun _ _=>by kernel_rfl) w hg hu i hi hn (hp i hi) (hq i hi) (hga i hi) (fun vn vk W=>im_shs (fa (F i).a) vn vk h1 W) (fun vn pk ck W=>im_rows (fa (F i).a) vn pk (F i).q ck h1 (hq i hi) W) (fun vn pk ck j W hj h7=>im_kids (fa (F i).a) vn pk (F i).q ck j h1 (hq i hi) hj h7 W) (im_line_s (F i).a h1)⟩
 ·by_cases h2 : 20≤(F i).a.k∧(F i).a.k≤37
  ·exact .inr ⟨.inr (.inl h2),_,cts_g mth_e (fun _ _=>by kernel_rfl) (fun _ _=>by kernel_rfl) w hg hu i hi hn (hp i hi) (hq i hi) (hga i hi) (fun vn vk W=>im_she (fa (F i).a) vn vk h2 W) (fun vn pk ck W=>im_rowe (fa (F i).a) vn pk (F i).q ck h2 (hq i hi) W) (fun vn pk ck j W hj h7=>im_kide (fa (F i).a) vn pk (F i).q ck j h2 (hq i hi) hj h7 W) (im_line_e (F i).a h2)⟩
  ·by_cases h3 : 40≤(F i).a.k∧(F i).a.k≤42
   ·exact .inr ⟨.inr (.inr h3),_,cts_g mth_t (fun _ _=>by kernel_rfl) (fun _ _=>by kernel_rfl) w hg hu i hi hn (hp i hi) (hq i hi) (hga i hi) (fun vn vk W=>im_sht (fa (F i).a) vn vk h3 W) (fun vn pk ck W=>im_rowt (fa (F i).a) vn pk (F i).q ck h3 (hq i hi) W) (fun vn pk ck j W hj h7=>im_kidt (fa (F i).a) vn pk (F i).q ck j h3 (hq i hi) hj h7 W) (im_line_t (F i).a h3)⟩
   ·exact .inl ⟨fun h=>by unfold kok at h;omega,fun vn vk W=>im_shn (fa (F i).a) vn vk ⟨h1,h2,h3⟩ W⟩
theorem szl_fa (F:Nat→Gv) (n:Nat):Fo.szl (frm F) n=szl F n:=by
 induction n with
 | zero=>rfl
 | succ n ih =>
  funext j
  unfold Fo.szl szl
  rw [ih]
  rfl
theorem dpr_fa (F:Nat→Gv) (n m:Nat):Fo.dpr (frm F) n m=dpr F n m:=by
 induction m with
 | zero=>rfl
 | succ m ih =>
  funext j
  unfold Fo.dpr dpr
  rw [ih]
  rfl
theorem Cel9.kz {W W':World} {b:Addr} {a:Fv} {vn vk:Value} (h:Cel9 W b a vn vk) (hb:Kz W W'):Cel9 W' b a vn vk:=by
 have hl:=lt_of_cell' h.c0
 have e:∀ j,W'.cell? ⟨b.block,j,none⟩=W.cell? ⟨b.block,j,none⟩:=fun j=>hb.cell (p:=⟨b.block,j,none⟩) hl
 exact ⟨(hb.cell hl).trans h.c0,(e _).trans h.c1,(e _).trans h.c2,(e _).trans h.c3,(e _).trans h.c4,(e _).trans h.c5,(e _).trans h.c6,(e _).trans h.c7,(e _).trans h.c8,(e _).trans h.c9⟩
theorem FormC.kz {W W':World} {b:Addr} {g:Gv} (h:FormC W b g) (hb:Kz W W'):FormC W' b g:=by
 obtain ⟨vn,vk,h1,h2,h3⟩:=h
 exact ⟨vn,vk,h1.kz hb,h2.kz hb,h3.kz hb⟩
theorem RowF.kz {W W':World} {v:Value} {n:Nat} {F:Nat→Gv} (h:RowF W v n F) (hb:Kz W W'):RowF W' v n F:=by
 obtain ⟨pa,cap,h1,h2⟩:=h
 exact ⟨pa,cap,h1,fun hn=>by obtain ⟨a,ha,hc,hr⟩:=h2 hn;exact ⟨a,ha,hc,fun i hi=>(hr i hi).kz hb⟩⟩
end Go.Proofs.YtomcmnompajnlaaGreatDoor.Fo.Po
namespace Go.Proofs.YtomcmnompajnlaaGreatDoor.Fo.Po
open Go.ChangeShapes Go.WideShapes Go.ChangeAt Go.RowKit
set_option linter.unusedVariables false
set_option linter.unusedSimpArgs false
theorem im_tree {v : Value} {n : Nat} {F : Nat → Gv} (w : World) (hg : Gd w) (hf : RowF w v n F) (hn : n ≤ 1048576) (hp : ∀ i, i < n → (F i).p ≤ 1048576) (hq : ∀ i, i < n → (F i).q ≤ 1048576) (hm : ∀ i, i < n → -9223372036854775808 ≤ (F i).a.m ∧ (F i).a.m ≤ 9223372036854775807) (hga : ∀ i, i < n → (F i).a.g < 18446744073709551616) :
  Calls Tryz.prog 30 #[.agg #[v]] w fun e w'=>∃ c f,e = .returned (.agg #[.int .i64 c,.int .i64 f])∧Fl nmp flp F n c f∧Kz w w':=by
 have HE:Hid (∀ W,Kz w W→Calls Tryz.prog 61 #[v] W fun e w'=>e = .returned (.bool (dc (0 < n∧n≤3000∧(F (n - 1)).a.k=1)))∧Kz W w'):=(fun W hz=>im_ends W (hf.kz hz) hn:∀ W,_)
 have HFO:Hid (∀ W,Kz w W→n≤3000→Calls Tryz.prog 62 #[v] W fun e w'=>∃ u,e = .returned u∧Fo.RowF w' u n (frm F)∧Kz W w'):=(fun W hz h3=>im_forms W (hf.kz hz) h3:∀ W,_)
 have HML:Hid (∀ W wf (pu:Option Addr) (cu:Nat),Kz w wf→Kz wf W→Fo.RowF wf (.slice pu n cu) n (frm F)→n≤3000→Calls Tryz.prog 63 #[v,.slice pu n cu] W fun e w'=>∃ r:Int,e = .returned (.int .i64 r)∧Ill F n r∧Kz W w'):=(fun W wf pu cu hz1 hz2 hu h3=>im_ill W (hf.kz (hz1.trans hz2)) (hu.kz hz2) h3 hm (cts_all W ((hz1.trans hz2).gd hg) (hu.kz hz2) hn hp hq hga):∀ W wf (pu:Option Addr) (cu:Nat),_)
 have HQ:Hid (∀ i,i < n→(F i).q≤1048576):=hq
 obtain ⟨pf,cf,rfl,_⟩:=hf
 obtain ⟨W2,hW2⟩:∃ W2,W2=(w.alloc (.cells #[.slice pf n cf] 56)).alloc (.cells #[.int .i64 0,.int .i64 0] 52):=⟨_,rfl⟩
 have hs2:Rs W2 w.heap.size (.slice pf n cf):=by rw [hW2];exact Rs.new _ _ _ _
 have hb2:Kz w W2:=by rw [hW2];exact .of_below (bel2 _ _ _)
 have HS2:Hid (Rs W2 w.heap.size (.slice pf n cf)∧Kz w W2):=(⟨hs2,hb2⟩:_∧_)
 clear hg hn hp hq hm hga hs2 hb2
 go_enter Tryz.func30,Tryz.ntmps30
 go_wp2_with fail
 rw [← hW2]
 clear hW2
 refine ((show ∀ W,Kz w W→Calls Tryz.prog 61 #[.slice pf n cf] W _ from HE) W2 HS2.2).mono ?_
 rintro e w3 ⟨rfl,k3⟩
 have HS3:Hid (Rs w3 w.heap.size (.slice pf n cf)∧Kz w w3):=(⟨HS2.1.kz k3,HS2.2.trans k3⟩:_∧_)
 clear HS2 k3 HE
 by_cases g : 0 < n∧n≤3000∧(F (n - 1)).a.k=1
 case neg =>
  rw [dc_f g]
  have hFl:Fl nmp flp F n 1 0:=.none0 (by omega)
  have hrs:=(show Rs w3 w.heap.size (.slice pf n cf)∧Kz w w3 from HS3)
  have HX:Hid (Fl nmp flp F n 1 0∧Kz w ((w3.setCell ⟨w.heap.size+1,0,none⟩ (.int .i64 1)).setCell ⟨w.heap.size+1,1,none⟩ (.int .i64 0))):=(⟨hFl,(hrs.1.retz hrs.2 1 0).2.2⟩:_∧_)
  have e0:=(hrs.1.retz hrs.2 1 0).1
  have e1:=(hrs.1.retz hrs.2 1 0).2.1
  have c1:=hrs.1.r0
  have c2:=hrs.1.r1
  have c3:=hrs.1.z0
  have c4:=hrs.1.z1
  clear hrs hFl
  go_wp2_with fail
  refine bodyPost_ret (by simp [results,Tryz.results30,go_sem,e0,e1];rfl) rfl ?_
  exact ⟨1,0,rfl,HX.1,HX.2⟩
 rw [dc_t g]
 obtain ⟨h0,h1,h2⟩:=g
 have HG:Hid (0 < n∧n≤3000∧(F (n - 1)).a.k=1):=(⟨h0,h1,h2⟩:_∧_∧_)
 clear h0 h1 h2
 have c0:=(show Rs w3 w.heap.size (.slice pf n cf)∧Kz w w3 from HS3).1.ct
 go_wp2_with fail
 refine ((show ∀ W,Kz w W→n≤3000→Calls Tryz.prog 62 #[.slice pf n cf] W _ from HFO) w3 HS3.2 HG.2.1).mono ?_
 rintro e wf ⟨u,rfl,hu,kf⟩
 have hu':=hu
 obtain ⟨pu,cu,rfl,_⟩:=hu'
 have HSF:Hid (Rs wf w.heap.size (.slice pf n cf)∧Kz w wf):=(⟨HS3.1.kz kf,HS3.2.trans kf⟩:_∧_)
 have HM:=(show ∀ W wf (pu:Option Addr) (cu:Nat),_ from HML) wf wf pu cu HSF.2 (Kz.refl _) hu HG.2.1
 have HD:Hid (∀ W,Kz wf W→0 < n→n≤3000→Kn F n→Calls Tryz.prog 39 #[.slice pu n cu] W fun e w'=>(∃ r:Int,e = .returned (.int .i64 r)∧Dis (frm F) n r)∧w'.os=W.os∧w'.output=W.output∧W.heap.size≤w'.heap.size∧∀ k,k < W.heap.size→w'.heap[k]? = W.heap[k]?):=(fun W hz h0 h1 hK=>im_disorder W (hu.kz hz) h0 h1 hK HQ:∀ W,_)
 have HT:Hid (∀ W,Kz wf W→n≤3000→Kn F n→Calls Tryz.prog 41 #[.slice pu n cu] W fun e w'=>∃ u:Value,e = .returned u∧Kz W w'∧Calls Tryz.prog 40 #[u] w' fun e w''=>(∃ r:Int,e = .returned (.int .i64 r)∧Tdp (Fo.dpr (frm F) n n) n r)∧w''.os=w'.os∧w''.output=w'.output∧w'.heap.size≤w''.heap.size∧∀ k,k < w'.heap.size→w''.heap[k]? = w'.heap[k]?):=(fun W hz h1 hK=>(im_kidrows W (hu.kz hz) h1).mono fun e w' h=>by obtain ⟨u,PK,CK,he,hu2,hk,hz2⟩:=h;exact ⟨u,he,hz2,im_deep w' hu2 hk h1 hK HQ⟩:∀ W,_)
 clear hu kf HS3 HFO HML HQ c0
 have c0:=(show Rs wf w.heap.size (.slice pf n cf)∧Kz w wf from HSF).1.ct
 go_wp2_with fail
 refine HM.mono ?_
 rintro e w4 ⟨r,rfl,hmis,k4⟩
 have HS4:Hid (Rs w4 w.heap.size (.slice pf n cf)∧Kz w w4):=(⟨HSF.1.kz k4,HSF.2.trans k4⟩:_∧_)
 have HW4:Hid (Kz wf w4):=k4
 clear HSF k4 HM c0
 cases hmis with
 | «at» i hi ha hd =>
  have hFl:Fl nmp flp F n 2 (i:Int):=.shape i HG.1 HG.2.1 HG.2.2 hi (fun j hj=>(ndk_gok F j).2 (ha j hj)) (fun h=>hd ((ndk_gok F i).1 h))
  clear ha hd
  have hrs:=(show Rs w4 w.heap.size (.slice pf n cf)∧Kz w w4 from HS4)
  have HX:Hid (Fl nmp flp F n 2 (i:Int)∧Kz w ((w4.setCell ⟨w.heap.size+1,0,none⟩ (.int .i64 2)).setCell ⟨w.heap.size+1,1,none⟩ (.int .i64 (i:Int)))):=(⟨hFl,(hrs.1.retz hrs.2 2 (i:Int)).2.2⟩:_∧_)
  have e0:=(hrs.1.retz hrs.2 2 (i:Int)).1
  have e1:=(hrs.1.retz hrs.2 2 (i:Int)).2.1
  have c1:=hrs.1.r0
  have c2:=hrs.1.r1
  have c3:=hrs.1.z0
  have c4:=hrs.1.z1
  clear hrs hFl
  go_wp2_with fail
  refine bodyPost_ret (by simp [results,Tryz.results30,go_sem,e0,e1];rfl) rfl ?_
  exact ⟨2,(i:Int),rfl,HX.1,HX.2⟩
 | none ha =>
  have hna:∀ j,j < n→ndk nmp flp F j:=fun j hj=>(ndk_gok F j).2 (ha j hj)
  have HNA:Hid (∀ j,j < n→ndk nmp flp F j):=hna
  have hK:Kn F n:=fun i hi=>(hna i hi).2.2.2.2.1
  clear hna
  have HKN:Hid (Kn F n):=hK
  have c0:=(show Rs w4 w.heap.size (.slice pf n cf)∧Kz w w4 from HS4).1.ct
  have hcd:=(show ∀ W,Kz wf W→0 < n→n≤3000→Kn F n→_ from HD) w4 HW4 HG.1 HG.2.1 hK
  clear ha hK HD
  go_wp2_with fail
  refine hcd.mono ?_
  rintro e w5 ⟨⟨r,rfl,hdis⟩,k5'⟩
  have k5:=kz_of k5'
  have HS5:Hid (Rs w5 w.heap.size (.slice pf n cf)∧Kz w w5):=(⟨HS4.1.kz k5,HS4.2.trans k5⟩:_∧_)
  have HW5:Hid (Kz wf w5):=(show Kz wf w4 from HW4).trans k5
  clear HS4 HW4 k5 k5' c0 hcd
  cases hdis with
  | «at» i hi ha hd =>
   have hFl:Fl nmp flp F n 3 (i:Int):=.order i HG.1 HG.2.1 HG.2.2 HNA hi (by simpa only [szl_fa] using ha) (by simpa only [szl_fa] using hd)
   clear ha hd
   have hrs:=(show Rs w5 w.heap.size (.slice pf n cf)∧Kz w w5 from HS5)
   have HX:Hid (Fl nmp flp F n 3 (i:Int)∧Kz w ((w5.setCell ⟨w.heap.size+1,0,none⟩ (.int .i64 3)).setCell ⟨w.heap.size+1,1,none⟩ (.int .i64 (i:Int)))):=(⟨hFl,(hrs.1.retz hrs.2 3 (i:Int)).2.2⟩:_∧_)
   have e0:=(hrs.1.retz hrs.2 3 (i:Int)).1
   have e1:=(hrs.1.retz hrs.2 3 (i:Int)).2.1
   have c1:=hrs.1.r0
   have c2:=hrs.1.r1
   have c3:=hrs.1.z0
   have c4:=hrs.1.z1
   clear hrs hFl
   go_wp2_with fail
   refine bodyPost_ret (by simp [results,Tryz.results30,go_sem,e0,e1];rfl) rfl ?_
   exact ⟨3,(i:Int),rfl,HX.1,HX.2⟩
  | last ha hd =>
   have hFl:Fl nmp flp F n 3 ((n:Int) - 1):=.whole HG.1 HG.2.1 HG.2.2 HNA (by simpa only [szl_fa] using ha) (by simpa only [szl_fa] using hd)
   have hn1 : 0≤(n:Int) - 1:=by have:=(show 0 < n∧_ from HG).1;omega
   clear ha hd
   obtain ⟨rr,hrr⟩:∃ rr,rr=(n:Int) - 1:=⟨_,rfl⟩
   rw [← hrr] at hFl hn1 ⊢
   clear hrr
   have hrs:=(show Rs w5 w.heap.size (.slice pf n cf)∧Kz w w5 from HS5)
   have HX:Hid (Fl nmp flp F n 3 rr∧Kz w ((w5.setCell ⟨w.heap.size+1,0,none⟩ (.int .i64 3)).setCell ⟨w.heap.size+1,1,none⟩ (.int .i64 rr))):=(⟨hFl,(hrs.1.retz hrs.2 3 rr).2.2⟩:_∧_)
   have e0:=(hrs.1.retz hrs.2 3 rr).1
   have e1:=(hrs.1.retz hrs.2 3 rr).2.1
   have c1:=hrs.1.r0
   have c2:=hrs.1.r1
   have c3:=hrs.1.z0
   have c4:=hrs.1.z1
   clear hrs hFl
   go_wp2_with fail
   refine bodyPost_ret (by simp [results,Tryz.results30,go_sem,e0,e1];rfl) rfl ?_
   exact ⟨3,rr,rfl,HX.1,HX.2⟩
  | none ha hd =>
   have HND:Hid ((∀ j,j < n→szl F n j ≠ 0)∧szl F n (n - 1)=(n:Int)):=(⟨by simpa only [szl_fa] using ha,by simpa only [szl_fa] using hd⟩:_∧_)
   have c0:=(show Rs w5 w.heap.size (.slice pf n cf)∧Kz w w5 from HS5).1.ct
   have hct:=(show ∀ W,Kz wf W→n≤3000→Kn F n→_ from HT) w5 HW5 HG.2.1 HKN
   clear ha hd HT
   go_wp2_with fail
   refine hct.mono ?_
   rintro e w6' ⟨u,rfl,k5,hcu⟩
   have HS6':Hid (Rs w6' w.heap.size (.slice pf n cf)∧Kz w w6'):=(⟨HS5.1.kz k5,HS5.2.trans k5⟩:_∧_)
   clear HS5 HW5 k5 c0 hct
   go_wp2_with fail
   refine hcu.mono ?_
   rintro e w6 ⟨⟨r,rfl,htd⟩,k6'⟩
   have k6:=kz_of k6'
   have HS6:Hid (Rs w6 w.heap.size (.slice pf n cf)∧Kz w w6):=(⟨HS6'.1.kz k6,HS6'.2.trans k6⟩:_∧_)
   clear HS6' k6 k6' hcu
   rw [dpr_fa] at htd
   cases htd with
   | «at» i hi ha hd =>
    have hFl:Fl nmp flp F n 4 (i:Int):=.depth i HG.1 HG.2.1 HG.2.2 HNA HND.1 HND.2 hi ha hd
    clear ha hd
    have hrs:=(show Rs w6 w.heap.size (.slice pf n cf)∧Kz w w6 from HS6)
    have HX:Hid (Fl nmp flp F n 4 (i:Int)∧Kz w ((w6.setCell ⟨w.heap.size+1,0,none⟩ (.int .i64 4)).setCell ⟨w.heap.size+1,1,none⟩ (.int .i64 (i:Int)))):=(⟨hFl,(hrs.1.retz hrs.2 4 (i:Int)).2.2⟩:_∧_)
    have e0:=(hrs.1.retz hrs.2 4 (i:Int)).1
    have e1:=(hrs.1.retz hrs.2 4 (i:Int)).2.1
    have c1:=hrs.1.r0
    have c2:=hrs.1.r1
    have c3:=hrs.1.z0
    have c4:=hrs.1.z1
    clear hrs hFl
    go_wp2_with fail
    refine bodyPost_ret (by simp [results,Tryz.results30,go_sem,e0,e1];rfl) rfl ?_
    exact ⟨4,(i:Int),rfl,HX.1,HX.2⟩
   | none ha =>
    have hFl:Fl nmp flp F n 0 0:=.sound HG.1 HG.2.1 HG.2.2 HNA HND.1 HND.2 ha
    clear ha
    have hrs:=(show Rs w6 w.heap.size (.slice pf n cf)∧Kz w w6 from HS6)
    have HX:Hid (Fl nmp flp F n 0 0∧Kz w ((w6.setCell ⟨w.heap.size+1,0,none⟩ (.int .i64 0)).setCell ⟨w.heap.size+1,1,none⟩ (.int .i64 0))):=(⟨hFl,(hrs.1.retz hrs.2 0 0).2.2⟩:_∧_)
    have e0:=(hrs.1.retz hrs.2 0 0).1
    have e1:=(hrs.1.retz hrs.2 0 0).2.1
    have c1:=hrs.1.r0
    have c2:=hrs.1.r1
    have c3:=hrs.1.z0
    have c4:=hrs.1.z1
    clear hrs hFl
    go_wp2_with fail
    refine bodyPost_ret (by simp [results,Tryz.results30,go_sem,e0,e1];rfl) rfl ?_
    exact ⟨0,0,rfl,HX.1,HX.2⟩
theorem Fl.uniq {nm fl:ByteArray→Prop} {F:Nat→Gv} {n:Nat} {c f c' f':Int} (h:Fl nm fl F n c f) (h':Fl nm fl F n c' f'):c=c'∧f=f':=by
 cases h with
 | none0 a=>cases h' with
  | none0 b=>exact ⟨rfl,rfl⟩
  | _=>exfalso;omega
 | shape i a1 a2 a3 a4 a5 a6=>cases h' with
  | none0 b=>exfalso;omega
  | shape j b1 b2 b3 b4 b5 b6=>exact ⟨rfl,by rw [first_uniq a5 a6 b5 b6]⟩
  | order j b1 b2 b3 b4=>exact absurd (b4 i a4) a6
  | whole b1 b2 b3 b4=>exact absurd (b4 i a4) a6
  | depth j b1 b2 b3 b4=>exact absurd (b4 i a4) a6
  | sound b1 b2 b3 b4=>exact absurd (b4 i a4) a6
 | order i a1 a2 a3 a4 a5 a6 a7=>cases h' with
  | none0 b=>exfalso;omega
  | shape j b1 b2 b3 b4 b5 b6=>exact absurd (a4 j b4) b6
  | order j b1 b2 b3 b4 b5 b6 b7=>exact ⟨rfl,by rw [first_uniq (P:=fun k=>szl F n k ≠ 0) a6 (fun z=>z a7) b6 (fun z=>z b7)]⟩
  | whole b1 b2 b3 b4 b5=>exact absurd a7 (b5 i a5)
  | depth j b1 b2 b3 b4 b5=>exact absurd a7 (b5 i a5)
  | sound b1 b2 b3 b4 b5=>exact absurd a7 (b5 i a5)
 | whole a1 a2 a3 a4 a5 a6=>cases h' with
  | none0 b=>exfalso;omega
  | shape j b1 b2 b3 b4 b5 b6=>exact absurd (a4 j b4) b6
  | order j b1 b2 b3 b4 b5 b6 b7=>exact absurd b7 (a5 j b5)
  | whole b1 b2 b3 b4 b5=>exact ⟨rfl,rfl⟩
  | depth j b1 b2 b3 b4 b5 b6=>exact absurd b6 a6
  | sound b1 b2 b3 b4 b5 b6=>exact absurd b6 a6
 | depth i a1 a2 a3 a4 a5 a6 a7 a8 a9=>cases h' with
  | none0 b=>exfalso;omega
  | shape j b1 b2 b3 b4 b5 b6=>exact absurd (a4 j b4) b6
  | order j b1 b2 b3 b4 b5 b6 b7=>exact absurd b7 (a5 j b5)
  | whole b1 b2 b3 b4 b5 b6=>exact absurd a6 b6
  | depth j b1 b2 b3 b4 b5 b6 b7 b8 b9=>exact ⟨rfl,by rw [first_uniq (P:=fun k=>dpr F n n k≤100) a8 (by omega) b8 (by omega)]⟩
  | sound b1 b2 b3 b4 b5 b6 b7=>have:=b7 i a7;omega
 | sound a1 a2 a3 a4 a5 a6 a7=>cases h' with
  | none0 b=>exfalso;omega
  | shape j b1 b2 b3 b4 b5 b6=>exact absurd (a4 j b4) b6
  | order j b1 b2 b3 b4 b5 b6 b7=>exact absurd b7 (a5 j b5)
  | whole b1 b2 b3 b4 b5 b6=>exact absurd a6 b6
  | depth j b1 b2 b3 b4 b5 b6 b7 b8 b9=>have:=a7 j b7;omega
  | sound b1 b2 b3 b4 b5 b6 b7=>exact ⟨rfl,rfl⟩
end Go.Proofs.YtomcmnompajnlaaGreatDoor.Fo.Po
namespace Go.Proofs.YtomcmnompajnlaaGreatDoor.Fo.Po
open Go.ChangeShapes Go.WideShapes Go.ChangeAt Go.RowKit
set_option linter.unusedVariables false
theorem eq_fault (c f:Int) (w:World):Calls Tryz.prog 31 #[.agg #[.int .i64 c,.int .i64 f],.agg #[.int .i64 c,.int .i64 f]] w fun e w'=>e = .returned (.bool true)∧Below w.heap.size w w':=by
 have h1:(c != c)=false:=by simp
 have h2:(f != f)=false:=by simp
 go_enter Tryz.func31,Tryz.ntmps31
 go_wp2_with fail
 go_ret
 exact ⟨rfl,bel2 _ _ _⟩
theorem smr_p {F:Nat→Gv} {n:Nat} (h:n+smr F n≤1048576):(∀ i,i < n→(F i).p≤1048576)∧∀ i,i < n→(F i).q≤1048576:=by
 constructor
 all_goals
  intro i hi
  have hsu:=smr_mono F (show i+1≤n from hi)
  have hss:smr F (i+1)=smr F i+(F i).p+(F i).q:=rfl
  omega
theorem law_treeok {pa : Option Addr} {ca n : Nat} {F : Nat → Gv} (w : World) (hg : Gd w) (ha : RowF w (.slice pa n ca) n F) (hn : (n : Int) < 140737488355328)
  (hF:∀ i,i < n→((F i).a.x.size:Int) < 140737488355328∧((F i).p:Int) < 140737488355328∧(∀ j,j < (F i).p→(((F i).A j).size:Int) < 140737488355328)∧((F i).q:Int) < 140737488355328)
  (hm:∀ i,i < n → -9223372036854775808≤(F i).a.m∧(F i).a.m≤9223372036854775807) (hga:∀ i,i < n→(F i).a.g < 18446744073709551616) :
  Calls Tryz.prog 7 #[.agg #[.slice pa n ca]] w fun e w'=>e = .returned (.bool true)∧Rd.Kept w w':=by
 have HSZ:Hid (∀ o:Obj,Calls Tryz.prog 27 #[.agg #[.slice pa n ca],.int .i64 1048576] (w.alloc o) fun e w'=>∃ r:Int,e = .returned (.int .i64 r)∧(0≤r→(n:Int)+(smr F n:Int)≤1048576) ∧ -1≤r∧r≤1048576∧Below (w.alloc o).heap.size (w.alloc o) w'):=(fun o=>sz_sheet (w.alloc o) (ha.below (bel1 _ _)) hn hF:∀ o:Obj,_)
 have HA:Hid (RowF w (.slice pa n ca) n F∧Gd w∧(∀ i,i < n → -9223372036854775808≤(F i).a.m∧(F i).a.m≤9223372036854775807)∧∀ i,i < n→(F i).a.g < 18446744073709551616):=(⟨ha,hg,hm,hga⟩:_∧_∧_∧_)
 clear ha hn hF hg hm hga
 go_enter Tryz.func7,Tryz.ntmps7
 go_wp2_with fail
 refine ((show ∀ o:Obj,_ from HSZ) _).mono ?_
 rintro e w1 ⟨r,rfl,hr1,hr2,hr3,hb1⟩
 clear HSZ
 have B1:Kz w w1:=.of_below ((bel1 w _).trans (hb1.mono (by simp)))
 rcases Int.lt_or_le r 0 with h | h
 ·have HB:Hid (Kz w w1):=B1
  clear B1 hb1 hr1 HA
  go_wp2_with fail
  go_ret
  exact ⟨rfl,(show Kz w w1 from HB).kept⟩
 ·have h':¬ r < 0:=by omega
  have hsum:n+smr F n≤1048576:=by have:=hr1 h;omega
  have HS:Hid (n+smr F n≤1048576):=hsum
  have c0:w1.cell? ⟨w.heap.size,0,none⟩=some (.slice pa n ca):=cell_keepz (.of_below hb1) (cell_new1 w _ 49)
  have HK1:Hid (Kz w w1∧RowF w1 (.slice pa n ca) n F∧w1.cell? ⟨w.heap.size,0,none⟩=some (.slice pa n ca)):=(⟨B1,HA.1.kz B1,c0⟩:_∧_∧_)
  clear hr1 hsum hb1 B1
  go_wp2_with fail
  refine (to_sheet w1 HK1.2.1 HS).mono ?_
  rintro e w2 ⟨v1,g1,t1,rfl,o1,hb2⟩
  have k2:Kz w1 w2:=.of_below hb2
  have HK2:Hid (Kz w w2∧RowF w2 (.slice pa n ca) n F∧w2.cell? ⟨w.heap.size,0,none⟩=some (.slice pa n ca)∧RowF w2 v1 n F):=(⟨HK1.1.trans k2,HK1.2.1.kz k2,cell_keepz k2 HK1.2.2,o1.row⟩:_∧_∧_∧_)
  obtain ⟨p1,q1,rfl,_⟩:=o1.sl
  clear c0 HK1 o1 hb2 k2
  go_wp2_with fail
  refine (sp_sheet (fl:=flp) (nm_25 w) w2 HK2.2.2.2 (by have:=(show n+smr F n≤1048576 from HS);omega) (smr_p HS).1 (smr_p HS).2 HA.2.2.2).mono ?_
  rintro e w3 ⟨cc,ff,rfl,hfl,hb3⟩
  have k3:Kz w2 w3:=.of_below hb3
  have HFL:Hid (Fl nmp flp F n cc ff):=hfl
  have HK3:Hid (Kz w w3∧RowF w3 (.slice pa n ca) n F∧w3.cell? ⟨w.heap.size,0,none⟩=some (.slice pa n ca)):=(⟨HK2.1.trans k3,HK2.2.1.kz k3,cell_keepz k3 HK2.2.2.1⟩:_∧_∧_)
  have c0a:∀ o:Obj,(w3.alloc o).cell? ⟨w.heap.size,0,none⟩=some (.slice pa n ca):=fun o=>cell_keepz (.of_below (bel1 w3 o)) HK3.2.2
  obtain ⟨W4,hW4⟩:∃ W4,W4=w3.alloc (.cells #[.int .i64 cc,.int .i64 ff] 52):=⟨_,rfl⟩
  have k4:Kz w3 W4:=by rw [hW4];exact .of_below (bel1 _ _)
  have HK4:Hid (Kz w W4∧RowF W4 (.slice pa n ca) n F∧W4.cell? ⟨w.heap.size,0,none⟩=some (.slice pa n ca)∧W4.cell? ⟨w3.heap.size,0,none⟩=some (.int .i64 cc)∧W4.cell? ⟨w3.heap.size,1,none⟩=some (.int .i64 ff)):=(⟨HK3.1.trans k4,HK3.2.1.kz k4,cell_keepz k4 HK3.2.2,by rw [hW4];exact (cell_new2 _ _ _ _).1,by rw [hW4];exact (cell_new2 _ _ _ _).2⟩:_∧_∧_∧_∧_)
  clear HK2 hfl hb3 k3 k4 HK3
  go_wp2_with fail
  rw [← hW4]
  clear hW4 c0a
  refine (to_sheet W4 HK4.2.1 HS).mono ?_
  rintro e w5 ⟨vx,gx,tx',rfl,ox,hb5⟩
  obtain ⟨px,kx,rfl,_⟩:=ox.sl
  have k5:Kz W4 w5:=.of_below hb5
  obtain ⟨W6,hW6⟩:∃ W6,W6=w5.alloc (.cells #[.slice px n kx] 56):=⟨_,rfl⟩
  have k6:Kz w5 W6:=by rw [hW6];exact .of_below (bel1 _ _)
  have k46:=k5.trans k6
  have HK6:Hid (Kz w W6∧RowF W6 (.slice pa n ca) n F∧RowF W6 (.slice px n kx) n F∧W6.cell? ⟨w.heap.size,0,none⟩=some (.slice pa n ca)∧W6.cell? ⟨w3.heap.size,0,none⟩=some (.int .i64 cc)∧W6.cell? ⟨w3.heap.size,1,none⟩=some (.int .i64 ff)∧W6.cell? ⟨w5.heap.size,0,none⟩=some (.slice px n kx)):=(⟨HK4.1.trans k46,HK4.2.1.kz k46,ox.row.kz k6,cell_keepz k46 HK4.2.2.1,cell_keepz k46 HK4.2.2.2.1,cell_keepz k46 HK4.2.2.2.2,by rw [hW6];exact cell_new1 _ _ _⟩:_∧_∧_∧_∧_∧_∧_)
  clear HK4 ox hb5 k5 k6 k46
  go_wp2_with fail
  rw [← hW6]
  clear hW6
  refine (im_tree W6 (HK6.1.gd HA.2.1) HK6.2.2.1 (by have:=(show n+smr F n≤1048576 from HS);omega) (smr_p HS).1 (smr_p HS).2 HA.2.2.1 HA.2.2.2).mono ?_
  rintro e w7 ⟨cg,fg,rfl,hflg,k7⟩
  obtain ⟨rfl,rfl⟩:=Fl.uniq hflg (show Fl nmp flp F n cc ff from HFL)
  obtain ⟨W8,hW8⟩:∃ W8,W8=w7.alloc (.cells #[.int .i64 cg,.int .i64 fg] 52):=⟨_,rfl⟩
  have k8:Kz w7 W8:=by rw [hW8];exact .of_below (bel1 _ _)
  have k68:=k7.trans k8
  have HK8:Hid (Kz w W8∧RowF W8 (.slice pa n ca) n F∧RowF W8 (.slice px n kx) n F∧W8.cell? ⟨w.heap.size,0,none⟩=some (.slice pa n ca)∧W8.cell? ⟨w5.heap.size,0,none⟩=some (.slice px n kx)):=(⟨HK6.1.trans k68,HK6.2.1.kz k68,HK6.2.2.1.kz k68,cell_keepz k68 HK6.2.2.2.1,cell_keepz k68 HK6.2.2.2.2.2.2⟩:_∧_∧_∧_∧_)
  have x0:∀ o:Obj,(w7.alloc o).cell? ⟨w3.heap.size,0,none⟩=some (.int .i64 cg):=fun o=>cell_keepz (k7.alloc o) HK6.2.2.2.2.1
  have x1:∀ o:Obj,(w7.alloc o).cell? ⟨w3.heap.size,1,none⟩=some (.int .i64 fg):=fun o=>cell_keepz (k7.alloc o) HK6.2.2.2.2.2.1
  clear HK6 hflg HFL k7 k8 k68
  go_wp2_with fail
  rw [← hW8]
  clear hW8 x0 x1
  refine (eq_fault cg fg W8).mono ?_
  rintro e w9 ⟨rfl,hb9⟩
  have k9:Kz W8 w9:=.of_below hb9
  have HK9:Hid (Kz w w9∧RowF w9 (.slice pa n ca) n F∧RowF w9 (.slice px n kx) n F∧w9.cell? ⟨w.heap.size,0,none⟩=some (.slice pa n ca)∧w9.cell? ⟨w5.heap.size,0,none⟩=some (.slice px n kx)):=(⟨HK8.1.trans k9,HK8.2.1.kz k9,HK8.2.2.1.kz k9,cell_keepz k9 HK8.2.2.2.1,cell_keepz k9 HK8.2.2.2.2⟩:_∧_∧_∧_∧_)
  have c5:w9.cell? ⟨w5.heap.size,0,none⟩=some (.slice px n kx):=HK9.2.2.2.2
  have c0:w9.cell? ⟨w.heap.size,0,none⟩=some (.slice pa n ca):=HK9.2.2.2.1
  have HTO:Hid (∀ W,Kz w9 W→Calls Tryz.prog 29 #[.agg #[.slice pa n ca]] W fun e w'=>∃ v g t,e = .returned (.agg #[v])∧OwnF w' v g n F t W.heap.size w'.heap.size∧Below W.heap.size W w'):=(fun W hb=>to_sheet W (HK9.2.1.kz hb) HS:∀ W,_)
  have HEQ:Hid (∀ W v2,Kz w9 W→RowF W v2 n F→Calls Tryz.prog 32 #[.agg #[.slice px n kx],.agg #[v2]] W fun e w'=>e = .returned (.bool true)∧Below W.heap.size W w'):=(fun W v2 hb h2=>eq_sheet W (HK9.2.2.1.kz hb) h2 HS HA.2.2.2:∀ W v2,_)
  have HC5:Hid (∀ W,Kz w9 W→W.cell? ⟨w5.heap.size,0,none⟩=some (.slice px n kx)∧W.cell? ⟨w.heap.size,0,none⟩=some (.slice pa n ca)):=(fun W hb=>⟨cell_keepz hb c5,cell_keepz hb c0⟩:∀ W,_)
  clear HK8 hb9 k9
  go_wp2_with fail
  go_region_held_law (fun W'=>W'.cell? ⟨w5.heap.size,0,none⟩=some (.slice px n kx)∧W'.cell? ⟨w.heap.size,0,none⟩=some (.slice pa n ca)) (first | exact s11 | exact s10 | exact ⟨c5,c0⟩)
   (first
    | (go_at_call 29;refine ((show ∀ W,Kz w9 W→_ from HTO) _ (by exact Kz.drewN (Kz.refl _) 1)).mono ?_;rintro e w10 ⟨v2,g2,t2,rfl,o2,hb10⟩;have K10:Kz w9 w10:=⟨hb10.os,hb10.output,hb10.size,hb10.block⟩;have s10:=(show ∀ W,Kz w9 W→_ from HC5) w10 K10)
    | (go_at_call 32;refine ((show ∀ W v2,_ from HEQ) _ _ K10 o2.row).mono ?_;rintro e w11 ⟨rfl,hb11⟩;have K11:Kz w9 w11:=K10.trans (.of_below hb11);have s11:=(show ∀ W,Kz w9 W→_ from HC5) w11 K11))
  have HB11:Hid (Kz w w11):=HK9.1.trans K11
  clear c5 c0 HC5 HEQ HTO o2 hb10 K10 s10 hb11 K11 s11
  go_wp2_with fail
  go_ret
  exact ⟨rfl,(show Kz w w11 from HB11).kept⟩
end Go.Proofs.YtomcmnompajnlaaGreatDoor.Fo.Po
