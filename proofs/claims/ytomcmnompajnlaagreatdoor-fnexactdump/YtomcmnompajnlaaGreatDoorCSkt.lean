import Derived.Test.YtomcmnompajnlaaGreatDoorBTud
import Derived.Test.YtomcmnompajnlaaGreatDoorBTkc
import Derived.Test.YtomcmnompajnlaaGreatDoorBSdj
import Derived.Test.YtomcmnompajnlaaGreatDoorBSdd
import Derived.Test.YtomcmnompajnlaaGreatDoorBSbk
import Derived.Test.YtomcmnompajnlaaGreatDoorBSda
import Derived.Test.YtomcmnompajnlaaGreatDoorBScc
import Derived.Test.YtomcmnompajnlaaGreatDoorBSbd
import Derived.Test.YtomcmnompajnlaaGreatDoorBRab
import Derived.Test.YtomcmnompajnlaaGreatDoorBShc
import Derived.Test.YtomcmnompajnlaaGreatDoorBQua
import Derived.Test.YtomcmnompajnlaaGreatDoorProg
import GoSem.Claim
import GoSem.ClaimJoined
import GoSem.ClaimMapViews
import Derived.JoinedTies
import Derived.KernelRfl
import Derived.WalkKit
import Derived.ProofKit
import Derived.OpenShut
import Derived.Handy
import Derived.Laws.Strings3
import Derived.Lib.Strings
import Derived.Laws.OwnMore
import Derived.Laws.IdiomStrings
import Derived.Lib.UnsafeStr
import Derived.Deep.QuietTactic
import Derived.BigQuiet
import Derived.Deep.AppendLies
import Derived.Deep.MidRow
import Derived.Shelf.Strconv.Clone
import Derived.Lib.ConvBytes
import Derived.Lib.AtoiErrMem
import Derived.Lib.AtoiAllMem
import Derived.Laws.Closers25
import Derived.Laws.Closers25b
import Derived.BigCall
import Derived.BigGuard
import Derived.Lib.IfaceNeq
import Derived.Lib.IfaceEq
import Derived.Deep.RegionWith
import Derived.RangeFuncNested
import Derived.RangeFuncBound
import Derived.RangeFuncCalls
import Derived.RangeFuncLeaves
import Derived.Shelf.Abstract
import Derived.Shelf.RegionOpen
import Derived.OwnWalkIn
import Derived.TacticsInMore
import Derived.LoopNIn
import Derived.LoopIn
import Derived.Maps.AppendAt
import Derived.Lib.BufferRead
import Derived.BigRegion
import Derived.Deep.Cut
import Derived.Deep.CutBlock
import Derived.Deep.Light
import Derived.Deep.RegionHeldLaw
import Derived.Test.YtomcmnompajnlaaGreatDoorBQsh
import Derived.Shelf.Strings.Builder1
import Derived.Test.YtomcmnompajnlaaGreatDoorCSkxd
import Derived.Test.YtomcmnompajnlaaGreatDoorCSkf
import Derived.Test.YtomcmnompajnlaaGreatDoorBSpf
import Derived.Test.YtomcmnompajnlaaGreatDoorBSpe
import Derived.Test.YtomcmnompajnlaaGreatDoorCSko
import Derived.Test.YtomcmnompajnlaaGreatDoorBSkm
import Derived.Test.YtomcmnompajnlaaGreatDoorBSpb
import Derived.Test.YtomcmnompajnlaaGreatDoorBSpy
import Derived.Test.YtomcmnompajnlaaGreatDoorBSpi
import Derived.Test.YtomcmnompajnlaaGreatDoorCSka
import Derived.Test.YtomcmnompajnlaaGreatDoorBBab
import Derived.RangeFuncFrom
import Derived.RangeFuncBox
import Derived.Test.YtomcmnompajnlaaGreatDoorBSpl
import Derived.Test.YtomcmnompajnlaaGreatDoorCBaf
import Derived.OwnWalk
import Derived.WalkSpells
set_option maxRecDepth 100000
set_option maxHeartbeats 16000000
namespace Go.Proofs.YtomcmnompajnlaaGreatDoor.Fo
open Go.ChangeShapes Go.WideShapes Go.ChangeAt Go.RowKit
set_option linter.unusedVariables false
theorem fl_s:FlS flp:=fun x w=>by
  rw [show dc (flp x)=Classical.choose (fl_ex x) from dc_b _]
  exact (Classical.choose_spec (fl_ex x)).1 w
theorem im_shaped_g {TT FR FK : Nat} (mth : Mth TT FR FK) (eR : ∀ args w, (callFunc FR args).run Tryz.prog w = .ok (.enter FR args) w) (eK : ∀ args w, (callFunc FK args).run Tryz.prog w = .ok (.enter FK args) w) {v : Value} {n : Nat} {F : Nat → Gv} (w : World) (hg : Gd w) (hf : RowF w v n F) (i : Nat) (hi : i < n) (hn : n ≤ 1048576) (hp : (F i).p ≤ 1048576) (hq : (F i).q ≤ 1048576)
    (hsh:∀ (vn vk:Value) W,Calls Tryz.prog 89 #[fmv (F i).a vn vk] W fun e w'=>e = .returned (.iface TT (fmv (F i).a vn vk))∧Below W.heap.size W w')
    (hrw:∀ (vn:Value) (pk:Option Addr) (ck:Nat) W,Calls Tryz.prog FR #[fmv (F i).a vn (.slice pk (F i).q ck)] W fun e w'=>e = .returned (rwv (rwk (F i).a.k (F i).q))∧Below W.heap.size W w')
    (hkd:∀ (vn:Value) (pk:Option Addr) (ck j:Nat) W,j < (F i).q→((F i).a.k=7→(F i).q≤3)→Calls Tryz.prog FK #[fmv (F i).a vn (.slice pk (F i).q ck),.int .i64 (j:Int)] W fun e w'=>e = .returned (.int .i64 (sdk (F i).a.k (F i).a.m (F i).q j))∧Below W.heap.size W w') :
    Calls Tryz.prog 70 #[v,.int .i64 (i:Int)] w fun e w'=>e = .returned (.bool (dc (Ipk nmp flp F (F i).a (F i).p (F i).A (F i).q (F i).K (i:Int))))∧Kz w w':=by
  have hff:=hf
  obtain ⟨pf,cf,rfl,hf2⟩:=hf
  obtain ⟨c,rfl,hcc,hrc⟩:=hf2 (by omega)
  obtain ⟨vn,vk,hc,hrn,hrk⟩:=hrc i hi
  obtain ⟨pn,cn,rfl,hn2⟩:=hrn
  obtain ⟨pk,ck,rfl,hk2⟩:=hrk
  have hiI:(i:Int) < (n:Int):=by omega
  have hnI:(n:Int)≤1048576:=by omega
  have hqI:((F i).q:Int)≤1048576:=by omega
  have HSH:Hid (∀ W,Calls Tryz.prog 89 #[.agg #[.int .i64 (F i).a.k,.int .i64 (F i).a.f,.int .i64 (F i).a.t,.int .i64 (F i).a.l,.int .i64 (F i).a.o,.int .i64 (F i).a.m,.string (F i).a.x,.slice pn (F i).p cn,.slice pk (F i).q ck]] W fun e w'=>e = .returned (.iface TT (.agg #[.int .i64 (F i).a.k,.int .i64 (F i).a.f,.int .i64 (F i).a.t,.int .i64 (F i).a.l,.int .i64 (F i).a.o,.int .i64 (F i).a.m,.string (F i).a.x,.slice pn (F i).p cn,.slice pk (F i).q ck]))∧Below W.heap.size W w'):=(fun W=>hsh _ _ W:∀ W,_)
  have HRW:Hid (∀ W,Calls Tryz.prog FR #[.agg #[.int .i64 (F i).a.k,.int .i64 (F i).a.f,.int .i64 (F i).a.t,.int .i64 (F i).a.l,.int .i64 (F i).a.o,.int .i64 (F i).a.m,.string (F i).a.x,.slice pn (F i).p cn,.slice pk (F i).q ck]] W fun e w'=>e = .returned (rwv (rwk (F i).a.k (F i).q))∧Below W.heap.size W w'):=(fun W=>hrw _ pk ck W:∀ W,_)
  have HCL:Hid (Cel9 w (c.add (i*9)) (F i).a (.slice pn (F i).p cn) (.slice pk (F i).q ck)):=hc
  obtain ⟨d0,d1,d2,d3,d4,d5,d6,d7,d8⟩:=hc
  have mt:=mth.row
  by_cases hal:alw nmp flp (rwk (F i).a.k (F i).q) (F i).a (F i).p (F i).A (F i).q
  case neg =>
    have hX:dc (Ipk nmp flp F (F i).a (F i).p (F i).A (F i).q (F i).K (i:Int))=false:=dc_f (fun z=>hal z.1)
    rw [hX]
    have HAL:Hid (∀ W,Kz w W→Calls Tryz.prog 91 #[rwv (rwk (F i).a.k (F i).q),.agg #[.int .i64 (F i).a.k,.int .i64 (F i).a.f,.int .i64 (F i).a.t,.int .i64 (F i).a.l,.int .i64 (F i).a.o,.int .i64 (F i).a.m,.string (F i).a.x,.slice pn (F i).p cn,.slice pk (F i).q ck]] W fun e w'=>e = .returned (.bool false)∧Kz W w'):=(fun W hz=>by
      have:=im_allows (rwk (F i).a.k (F i).q) (rwk_t _ _) (a:=(F i).a) W (hz.gd hg) ((show RowV w (.slice pn (F i).p cn) (F i).p _ from ⟨pn,cn,rfl,hn2⟩).kz hz) ⟨pk,ck,rfl⟩ hp hq
      rw [dc_f hal] at this
      exact this:∀ W,_)
    clear hf2 hrc hn2 hk2 hg hi hn hp hq hsh hrw hkd hff hX hal
    go_enter Tryz.func70,Tryz.ntmps70
    go_wp2_with fail
    refine ((show ∀ W,Calls Tryz.prog 89 #[.agg #[.int .i64 (F i).a.k,.int .i64 (F i).a.f,.int .i64 (F i).a.t,.int .i64 (F i).a.l,.int .i64 (F i).a.o,.int .i64 (F i).a.m,.string (F i).a.x,.slice pn (F i).p cn,.slice pk (F i).q ck]] W fun e w'=>e = .returned (.iface TT (.agg #[.int .i64 (F i).a.k,.int .i64 (F i).a.f,.int .i64 (F i).a.t,.int .i64 (F i).a.l,.int .i64 (F i).a.o,.int .i64 (F i).a.m,.string (F i).a.x,.slice pn (F i).p cn,.slice pk (F i).q ck]))∧Below W.heap.size W w' from HSH) w).mono ?_
    rintro e w1 ⟨rfl,b1⟩
    have K1:Kz w w1:=.of_below b1
    have s1:=((show Cel9 w (c.add (i*9)) (F i).a (.slice pn (F i).p cn) (.slice pk (F i).q ck) from HCL).kz K1).conj
    clear d0 d1 d2 d3 d4 d5 d6 d7 d8 b1 HSH
    go_wp2_with fail
    first | (go_region_held_law (fun W'=>W'.cell? (c.add (i*9))=some (.int .i64 (F i).a.k)∧W'.cell? ⟨(c.add (i*9)).block,(c.add (i*9)).off+1,none⟩=some (.int .i64 (F i).a.f)∧W'.cell? ⟨(c.add (i*9)).block,(c.add (i*9)).off+2,none⟩=some (.int .i64 (F i).a.t)∧W'.cell? ⟨(c.add (i*9)).block,(c.add (i*9)).off+3,none⟩=some (.int .i64 (F i).a.l)∧W'.cell? ⟨(c.add (i*9)).block,(c.add (i*9)).off+4,none⟩=some (.int .i64 (F i).a.o)∧W'.cell? ⟨(c.add (i*9)).block,(c.add (i*9)).off+5,none⟩=some (.int .i64 (F i).a.m)∧W'.cell? ⟨(c.add (i*9)).block,(c.add (i*9)).off+6,none⟩=some (.string (F i).a.x)∧W'.cell? ⟨(c.add (i*9)).block,(c.add (i*9)).off+7,none⟩=some (.slice pn (F i).p cn)∧W'.cell? ⟨(c.add (i*9)).block,(c.add (i*9)).off+8,none⟩=some (.slice pk (F i).q ck)) (first | exact s3 | exact s2 | exact s1)
      (first
        | (refine ((show ∀ W,Calls Tryz.prog FR #[.agg #[.int .i64 (F i).a.k,.int .i64 (F i).a.f,.int .i64 (F i).a.t,.int .i64 (F i).a.l,.int .i64 (F i).a.o,.int .i64 (F i).a.m,.string (F i).a.x,.slice pn (F i).p cn,.slice pk (F i).q ck]] W fun e w'=>e = .returned (rwv (rwk (F i).a.k (F i).q))∧Below W.heap.size W w' from HRW) _).mono ?_;rintro e w2 ⟨rfl,b2⟩;have K2:Kz w w2:=K1.trans ⟨b2.os,b2.output,b2.size,b2.block⟩;have s2:=((show Cel9 w (c.add (i*9)) (F i).a (.slice pn (F i).p cn) (.slice pk (F i).q ck) from HCL).kz K2).conj)
        | (go_at_call 91;refine ((show ∀ W,Kz w W→Calls Tryz.prog 91 #[rwv (rwk (F i).a.k (F i).q),.agg #[.int .i64 (F i).a.k,.int .i64 (F i).a.f,.int .i64 (F i).a.t,.int .i64 (F i).a.l,.int .i64 (F i).a.o,.int .i64 (F i).a.m,.string (F i).a.x,.slice pn (F i).p cn,.slice pk (F i).q ck]] W fun e w'=>e = .returned (.bool false)∧Kz W w' from HAL) _ K2).mono ?_;rintro e w3 ⟨rfl,k3⟩;have K3:Kz w w3:=K2.trans k3;have s3:=((show Cel9 w (c.add (i*9)) (F i).a (.slice pn (F i).p cn) (.slice pk (F i).q ck) from HCL).kz K3).conj))) | fail
    all_goals
      have HZ:Hid (Kz w w3):=K3
      clear s1 s2 s3 K1 K2 K3 b2 k3 HRW HAL mt HCL
      go_wp2_with fail
      go_ret
      exact ⟨rfl,HZ⟩
  obtain ⟨R,hR⟩:∃ R,R=dc (∀ j,j < (F i).q→0≤(F i).K j∧(F i).K j < (i:Int)∧tk (sdk (F i).a.k (F i).a.m (F i).q j) (kdk F (F i).K j)):=⟨_,rfl⟩
  have hX:dc (Ipk nmp flp F (F i).a (F i).p (F i).A (F i).q (F i).K (i:Int))=R:=by
    rw [hR]
    exact dc_iff ⟨fun z=>z.2,fun z=>⟨hal,z⟩⟩
  rw [hX]
  have HAL:Hid (∀ W,Kz w W→Calls Tryz.prog 91 #[rwv (rwk (F i).a.k (F i).q),.agg #[.int .i64 (F i).a.k,.int .i64 (F i).a.f,.int .i64 (F i).a.t,.int .i64 (F i).a.l,.int .i64 (F i).a.o,.int .i64 (F i).a.m,.string (F i).a.x,.slice pn (F i).p cn,.slice pk (F i).q ck]] W fun e w'=>e = .returned (.bool true)∧Kz W w'):=(fun W hz=>by
    have:=im_allows (rwk (F i).a.k (F i).q) (rwk_t _ _) (a:=(F i).a) W (hz.gd hg) ((show RowV w (.slice pn (F i).p cn) (F i).p _ from ⟨pn,cn,rfl,hn2⟩).kz hz) ⟨pk,ck,rfl⟩ hp hq
    rw [dc_t hal] at this
    exact this:∀ W,_)
  have h7:(F i).a.k=7→(F i).q≤3:=fun e=>by
    have:=hal.2.1.2
    rw [e] at this
    have e2:(rwk 7 (F i).q).kh=3:=rfl
    omega
  have HKF:Hid (∀ W,Kz w W→Calls Tryz.prog 94 #[.iface TT (.agg #[.int .i64 (F i).a.k,.int .i64 (F i).a.f,.int .i64 (F i).a.t,.int .i64 (F i).a.l,.int .i64 (F i).a.o,.int .i64 (F i).a.m,.string (F i).a.x,.slice pn (F i).p cn,.slice pk (F i).q ck]),.slice (some c) n cf,.int .i64 (i:Int)] W fun e w'=>e = .returned (.bool R)∧Kz W w'):=(fun W hz=>by
    rw [hR]
    exact im_fit mth eK W (hff.kz hz) i hi hn hq pn cn pk ck (fun W j hj=>hkd _ pk ck j W hj h7) ⟨c,rfl,(show Cel9 w (c.add (i*9)) (F i).a (.slice pn (F i).p cn) (.slice pk (F i).q ck) from HCL).kz hz⟩:∀ W,_)
  clear hf2 hrc hn2 hk2 hg hi hn hp hq hsh hrw hkd hff hX hal hR h7
  go_enter Tryz.func70,Tryz.ntmps70
  go_wp2_with fail
  refine ((show ∀ W,Calls Tryz.prog 89 #[.agg #[.int .i64 (F i).a.k,.int .i64 (F i).a.f,.int .i64 (F i).a.t,.int .i64 (F i).a.l,.int .i64 (F i).a.o,.int .i64 (F i).a.m,.string (F i).a.x,.slice pn (F i).p cn,.slice pk (F i).q ck]] W fun e w'=>e = .returned (.iface TT (.agg #[.int .i64 (F i).a.k,.int .i64 (F i).a.f,.int .i64 (F i).a.t,.int .i64 (F i).a.l,.int .i64 (F i).a.o,.int .i64 (F i).a.m,.string (F i).a.x,.slice pn (F i).p cn,.slice pk (F i).q ck]))∧Below W.heap.size W w' from HSH) w).mono ?_
  rintro e w1 ⟨rfl,b1⟩
  have K1:Kz w w1:=.of_below b1
  have s1:=((show Cel9 w (c.add (i*9)) (F i).a (.slice pn (F i).p cn) (.slice pk (F i).q ck) from HCL).kz K1).conj
  clear d0 d1 d2 d3 d4 d5 d6 d7 d8 b1 HSH
  go_wp2_with fail
  go_region_held_law (fun W'=>W'.cell? (c.add (i*9))=some (.int .i64 (F i).a.k)∧W'.cell? ⟨(c.add (i*9)).block,(c.add (i*9)).off+1,none⟩=some (.int .i64 (F i).a.f)∧W'.cell? ⟨(c.add (i*9)).block,(c.add (i*9)).off+2,none⟩=some (.int .i64 (F i).a.t)∧W'.cell? ⟨(c.add (i*9)).block,(c.add (i*9)).off+3,none⟩=some (.int .i64 (F i).a.l)∧W'.cell? ⟨(c.add (i*9)).block,(c.add (i*9)).off+4,none⟩=some (.int .i64 (F i).a.o)∧W'.cell? ⟨(c.add (i*9)).block,(c.add (i*9)).off+5,none⟩=some (.int .i64 (F i).a.m)∧W'.cell? ⟨(c.add (i*9)).block,(c.add (i*9)).off+6,none⟩=some (.string (F i).a.x)∧W'.cell? ⟨(c.add (i*9)).block,(c.add (i*9)).off+7,none⟩=some (.slice pn (F i).p cn)∧W'.cell? ⟨(c.add (i*9)).block,(c.add (i*9)).off+8,none⟩=some (.slice pk (F i).q ck)) (first | exact s4 | exact s3 | exact s2 | exact s1)
    (first
      | (refine ((show ∀ W,Calls Tryz.prog FR #[.agg #[.int .i64 (F i).a.k,.int .i64 (F i).a.f,.int .i64 (F i).a.t,.int .i64 (F i).a.l,.int .i64 (F i).a.o,.int .i64 (F i).a.m,.string (F i).a.x,.slice pn (F i).p cn,.slice pk (F i).q ck]] W fun e w'=>e = .returned (rwv (rwk (F i).a.k (F i).q))∧Below W.heap.size W w' from HRW) _).mono ?_;rintro e w2 ⟨rfl,b2⟩;have K2:Kz w w2:=K1.trans ⟨b2.os,b2.output,b2.size,b2.block⟩;have s2:=((show Cel9 w (c.add (i*9)) (F i).a (.slice pn (F i).p cn) (.slice pk (F i).q ck) from HCL).kz K2).conj)
      | (go_at_call 91;refine ((show ∀ W,Kz w W→Calls Tryz.prog 91 #[rwv (rwk (F i).a.k (F i).q),.agg #[.int .i64 (F i).a.k,.int .i64 (F i).a.f,.int .i64 (F i).a.t,.int .i64 (F i).a.l,.int .i64 (F i).a.o,.int .i64 (F i).a.m,.string (F i).a.x,.slice pn (F i).p cn,.slice pk (F i).q ck]] W fun e w'=>e = .returned (.bool true)∧Kz W w' from HAL) _ K2).mono ?_;rintro e w3 ⟨rfl,k3⟩;have K3:Kz w w3:=K2.trans k3;have s3:=((show Cel9 w (c.add (i*9)) (F i).a (.slice pn (F i).p cn) (.slice pk (F i).q ck) from HCL).kz K3).conj)
      | (go_at_call 94;refine ((show ∀ W,Kz w W→Calls Tryz.prog 94 #[.iface TT (.agg #[.int .i64 (F i).a.k,.int .i64 (F i).a.f,.int .i64 (F i).a.t,.int .i64 (F i).a.l,.int .i64 (F i).a.o,.int .i64 (F i).a.m,.string (F i).a.x,.slice pn (F i).p cn,.slice pk (F i).q ck]),.slice (some c) n cf,.int .i64 (i:Int)] W fun e w'=>e = .returned (.bool R)∧Kz W w' from HKF) _ K3).mono ?_;rintro e w4 ⟨rfl,k4⟩;have K4:Kz w w4:=K3.trans k4;have s4:=((show Cel9 w (c.add (i*9)) (F i).a (.slice pn (F i).p cn) (.slice pk (F i).q ck) from HCL).kz K4).conj))
  have HZ:Hid (Kz w w4):=K4
  clear s1 s2 s3 s4 K1 K2 K3 K4 b2 k3 k4 HRW HAL HKF mt HCL
  go_wp2_with fail
  go_ret
  exact ⟨rfl,HZ⟩
theorem im_shaped_s {v : Value} {n : Nat} {F : Nat → Gv} (w : World) (hg : Gd w) (hf : RowF w v n F) (i : Nat) (hi : i < n) (hn : n ≤ 1048576) (hp : (F i).p ≤ 1048576) (hq : (F i).q ≤ 1048576) (hk : 1 ≤ (F i).a.k ∧ (F i).a.k ≤ 16) :
    Calls Tryz.prog 70 #[v,.int .i64 (i:Int)] w fun e w'=>e = .returned (.bool (dc (Ipk nmp flp F (F i).a (F i).p (F i).A (F i).q (F i).K (i:Int))))∧Kz w w' :=
  im_shaped_g mth_s (fun _ _=>by kernel_rfl) (fun _ _=>by kernel_rfl) w hg hf i hi hn hp hq (fun vn vk W=>im_shs (F i).a vn vk hk W) (fun vn pk ck W=>im_rows (F i).a vn pk (F i).q ck hk hq W) (fun vn pk ck j W hj h7=>im_kids (F i).a vn pk (F i).q ck j hk hq hj h7 W)
theorem im_shaped_e {v : Value} {n : Nat} {F : Nat → Gv} (w : World) (hg : Gd w) (hf : RowF w v n F) (i : Nat) (hi : i < n) (hn : n ≤ 1048576) (hp : (F i).p ≤ 1048576) (hq : (F i).q ≤ 1048576) (hk : 20 ≤ (F i).a.k ∧ (F i).a.k ≤ 37) :
    Calls Tryz.prog 70 #[v,.int .i64 (i:Int)] w fun e w'=>e = .returned (.bool (dc (Ipk nmp flp F (F i).a (F i).p (F i).A (F i).q (F i).K (i:Int))))∧Kz w w' :=
  im_shaped_g mth_e (fun _ _=>by kernel_rfl) (fun _ _=>by kernel_rfl) w hg hf i hi hn hp hq (fun vn vk W=>im_she (F i).a vn vk hk W) (fun vn pk ck W=>im_rowe (F i).a vn pk (F i).q ck hk hq W) (fun vn pk ck j W hj h7=>im_kide (F i).a vn pk (F i).q ck j hk hq hj h7 W)
theorem im_shaped_t {v : Value} {n : Nat} {F : Nat → Gv} (w : World) (hg : Gd w) (hf : RowF w v n F) (i : Nat) (hi : i < n) (hn : n ≤ 1048576) (hp : (F i).p ≤ 1048576) (hq : (F i).q ≤ 1048576) (hk : 40 ≤ (F i).a.k ∧ (F i).a.k ≤ 42) :
    Calls Tryz.prog 70 #[v,.int .i64 (i:Int)] w fun e w'=>e = .returned (.bool (dc (Ipk nmp flp F (F i).a (F i).p (F i).A (F i).q (F i).K (i:Int))))∧Kz w w' :=
  im_shaped_g mth_t (fun _ _=>by kernel_rfl) (fun _ _=>by kernel_rfl) w hg hf i hi hn hp hq (fun vn vk W=>im_sht (F i).a vn vk hk W) (fun vn pk ck W=>im_rowt (F i).a vn pk (F i).q ck hk hq W) (fun vn pk ck j W hj h7=>im_kidt (F i).a vn pk (F i).q ck j hk hq hj h7 W)
theorem im_shaped_n {v : Value} {n : Nat} {F : Nat → Gv} (w : World) (hf : RowF w v n F) (i : Nat) (hi : i < n) (hn : n ≤ 1048576) (hk : ¬ (1 ≤ (F i).a.k ∧ (F i).a.k ≤ 16) ∧ ¬ (20 ≤ (F i).a.k ∧ (F i).a.k ≤ 37) ∧ ¬ (40 ≤ (F i).a.k ∧ (F i).a.k ≤ 42)) :
    Calls Tryz.prog 70 #[v,.int .i64 (i:Int)] w fun e w'=>e = .returned (.bool false)∧Kz w w':=by
  obtain ⟨pf,cf,rfl,hf2⟩:=hf
  obtain ⟨c,rfl,hcc,hrc⟩:=hf2 (by omega)
  obtain ⟨vn,vk,hc,hrn,hrk⟩:=hrc i hi
  obtain ⟨pn,cn,rfl,hn2⟩:=hrn
  obtain ⟨pk,ck,rfl,hk2⟩:=hrk
  have hiI:(i:Int) < (n:Int):=by omega
  have HSH:Hid (∀ W,Calls Tryz.prog 89 #[.agg #[.int .i64 (F i).a.k,.int .i64 (F i).a.f,.int .i64 (F i).a.t,.int .i64 (F i).a.l,.int .i64 (F i).a.o,.int .i64 (F i).a.m,.string (F i).a.x,.slice pn (F i).p cn,.slice pk (F i).q ck]] W fun e w'=>e = .returned .nilIface∧Below W.heap.size W w'):=(fun W=>im_shn (F i).a _ _ hk W:∀ W,_)
  obtain ⟨d0,d1,d2,d3,d4,d5,d6,d7,d8⟩:=hc
  clear hf2 hrc hn2 hk2 hk
  go_enter Tryz.func70,Tryz.ntmps70
  go_wp2_with fail
  refine ((show ∀ W,Calls Tryz.prog 89 #[.agg #[.int .i64 (F i).a.k,.int .i64 (F i).a.f,.int .i64 (F i).a.t,.int .i64 (F i).a.l,.int .i64 (F i).a.o,.int .i64 (F i).a.m,.string (F i).a.x,.slice pn (F i).p cn,.slice pk (F i).q ck]] W fun e w'=>e = .returned .nilIface∧Below W.heap.size W w' from HSH) w).mono ?_
  rintro e w1 ⟨rfl,b1⟩
  have HZ:Hid (Kz w w1):=Kz.of_below b1
  clear d0 d1 d2 d3 d4 d5 d6 d7 d8 b1 HSH
  go_wp2_with fail
  go_quiet (skip)
  go_wp2_with fail
  go_ret
  exact ⟨rfl,by first | exact HZ | exact Kz.drewN HZ _⟩
theorem im_shaped {v : Value} {n : Nat} {F : Nat → Gv} (w : World) (hg : Gd w) (hf : RowF w v n F) (i : Nat) (hi : i < n) (hn : n ≤ 1048576) (hp : (F i).p ≤ 1048576) (hq : (F i).q ≤ 1048576) (hm : -9223372036854775808 ≤ (F i).a.m ∧ (F i).a.m ≤ 9223372036854775807) :
    Calls Tryz.prog 70 #[v,.int .i64 (i:Int)] w fun e w'=>e = .returned (.bool (dc (ndk nmp flp F i)))∧Kz w w':=by
  rw [dc_iff (ndk_iff hm)]
  by_cases h1 : 1≤(F i).a.k∧(F i).a.k≤16
  · rw [dc_iff (and_iff_right (show kok (F i).a.k from .inl h1))]
    exact im_shaped_s w hg hf i hi hn hp hq h1
  · by_cases h2 : 20≤(F i).a.k∧(F i).a.k≤37
    · rw [dc_iff (and_iff_right (show kok (F i).a.k from .inr (.inl h2)))]
      exact im_shaped_e w hg hf i hi hn hp hq h2
    · by_cases h3 : 40≤(F i).a.k∧(F i).a.k≤42
      · rw [dc_iff (and_iff_right (show kok (F i).a.k from .inr (.inr h3)))]
        exact im_shaped_t w hg hf i hi hn hp hq h3
      · rw [dc_f (fun h=>by have:=h.1;unfold kok at this;omega)]
        exact im_shaped_n w hf i hi hn ⟨h1,h2,h3⟩
inductive Mis (F:Nat→Gv) (n:Nat):Int→Prop
  | at (i:Nat):i < n→(∀ j,j < i→ndk nmp flp F j)→¬ ndk nmp flp F i→Mis F n (i:Int)
  | none:(∀ j,j < n→ndk nmp flp F j)→Mis F n (-1)
theorem im_misshapen {v : Value} {n : Nat} {F : Nat → Gv} (w : World) (hg : Gd w) (hf : RowF w v n F) (hn : n ≤ 1048576) (hp : ∀ i, i < n → (F i).p ≤ 1048576) (hq : ∀ i, i < n → (F i).q ≤ 1048576) (hm : ∀ i, i < n → -9223372036854775808 ≤ (F i).a.m ∧ (F i).a.m ≤ 9223372036854775807) :
    Calls Tryz.prog 38 #[v] w fun e w'=>∃ r:Int,e = .returned (.int .i64 r)∧Mis F n r∧Kz w w':=by
  have HC:Hid (∀ W i,Kz w W→i < n→Calls Tryz.prog 70 #[v,.int .i64 (i:Int)] W fun e w'=>e = .returned (.bool (dc (ndk nmp flp F i)))∧Kz W w'):=(fun W i hz hi=>im_shaped W (hz.gd hg) (hf.kz hz) i hi hn (hp i hi) (hq i hi) (hm i hi):∀ W i,_)
  obtain ⟨pf,cf,rfl,_⟩:=hf
  have hnI:(n:Int)≤1048576:=by omega
  clear hg hn hp hq hm
  go_enter Tryz.func38,Tryz.ntmps38
  go_wp2_with fail
  go_loopw [6] (fun s6 wr=>∃ i:Nat,s6 = .int .i64 (i:Int)∧i≤n∧Hid (Kz w wr∧∀ j,j < i→ndk nmp flp F j)) (fun s6 _=>n - (intOf s6).toNat)
  case atStart=>exact ⟨0,rfl,Nat.zero_le _,(⟨Kz.refl _,fun j hj=>by omega⟩:_∧_)⟩
  case round =>
    obtain ⟨i,rfl,hin,HI⟩:=hrel
    obtain ⟨hz,ha⟩:=(show Kz w wr∧∀ j,j < i→ndk nmp flp F j from HI)
    rcases Nat.lt_or_ge i n with hi | hi
    · have hiI:(i:Int) < (n:Int):=by omega
      have hc:=(show ∀ W i,_ from HC) wr i hz hi
      by_cases hd:ndk nmp flp F i
      · rw [dc_t hd] at hc
        have HX:Hid (Kz w wr∧∀ j,j < i+1→ndk nmp flp F j):=(⟨hz,fun j hj=>by
          by_cases e:j=i
          · rw [e];exact hd
          · exact ha j (by omega)⟩:_∧_)
        clear HI hz ha hd HC
        go_wp2_with fail
        refine hc.mono ?_
        rintro e w1 ⟨rfl,k1⟩
        have HX1:Hid (Kz w w1∧∀ j,j < i+1→ndk nmp flp F j):=(⟨HX.1.trans k1,HX.2⟩:_∧_)
        clear hc k1 HX
        go_wp2_with fail
        go_roundw
        case rel=>exact ⟨i+1,by go_num,by omega,HX1⟩
        case measure=>simp [intOf];omega
      · rw [dc_f hd] at hc
        have HX:Hid (Kz w wr∧Mis F n (i:Int)):=(⟨hz,.at i hi ha hd⟩:_∧_)
        clear HI hz ha hd HC
        go_wp2_with fail
        refine hc.mono ?_
        rintro e w1 ⟨rfl,k1⟩
        have HX1:Hid (Kz w w1∧Mis F n (i:Int)):=(⟨HX.1.trans k1,HX.2⟩:_∧_)
        clear hc k1 HX
        go_wp2_with fail
        go_ret
        exact ⟨(i:Int),rfl,HX1.2,HX1.1⟩
    · obtain rfl:i=n:=by omega
      have HX:Hid (Kz w wr∧Mis F i (-1)):=(⟨hz,.none ha⟩:_∧_)
      clear HI hz ha HC
      go_wp2_with fail
      go_ret
      exact ⟨-1,rfl,HX.2,HX.1⟩
theorem im_ends {v : Value} {n : Nat} {F : Nat → Gv} (w : World) (hf : RowF w v n F) (hn : n ≤ 1048576) :
    Calls Tryz.prog 37 #[v] w fun e w'=>e = .returned (.bool (dc (0 < n∧n≤3000∧(F (n - 1)).a.k=1)))∧Kz w w':=by
  obtain ⟨pf,cf,rfl,hf2⟩:=hf
  have hnI:(n:Int)≤1048576:=by omega
  rcases Nat.eq_zero_or_pos n with h0 | h0
  · subst h0
    rw [dc_f (by omega)]
    clear hf2
    go_enter Tryz.func37,Tryz.ntmps37
    go_wp2_with fail
    go_ret
    exact ⟨rfl,.refl _⟩
  · have h0' : 0 < (n:Int):=by omega
    rcases Nat.lt_or_ge 3000 n with h1 | h1
    · rw [dc_f (by omega)]
      have h1':¬ (n:Int)≤3000:=by omega
      clear hf2
      go_enter Tryz.func37,Tryz.ntmps37
      go_wp2_with fail
      go_ret
      exact ⟨rfl,.refl _⟩
    · obtain ⟨c,rfl,hcc,hrc⟩:=hf2 h0
      have h1':(n:Int)≤3000:=by omega
      obtain ⟨vn,vk,hc,_,_⟩:=hrc (n - 1) (by omega)
      obtain ⟨m,hm⟩:∃ m:Nat,m=n - 1:=⟨_,rfl⟩
      rw [← hm] at hc ⊢
      have hm1:(n:Int) - 1=(m:Int):=by omega
      have hm2:(m:Int) < (n:Int):=by omega
      have d0:=hc.c0
      by_cases hk:(F m).a.k=1
      · rw [dc_t ⟨h0,h1,hk⟩]
        have hk':=beq1 hk
        clear hf2 hrc hc hm hk
        go_enter Tryz.func37,Tryz.ntmps37
        go_wp2_with fail
        go_ret
        exact ⟨rfl,.refl _⟩
      · rw [dc_f (fun z=>hk z.2.2)]
        have hk':=bne hk
        clear hf2 hrc hc hm hk
        go_enter Tryz.func37,Tryz.ntmps37
        go_wp2_with fail
        go_ret
        exact ⟨rfl,.refl _⟩
theorem mis_kn {F:Nat→Gv} {n:Nat} (h:∀ j,j < n→ndk nmp flp F j):Kn F n:=fun i hi=>(h i hi).2.2.2.2.1
theorem im_sheet {v : Value} {n : Nat} {F : Nat → Gv} (w : World) (hg : Gd w) (hf : RowF w v n F) (hn : n ≤ 1048576) (hp : ∀ i, i < n → (F i).p ≤ 1048576) (hq : ∀ i, i < n → (F i).q ≤ 1048576) (hm : ∀ i, i < n → -9223372036854775808 ≤ (F i).a.m ∧ (F i).a.m ≤ 9223372036854775807) :
    Calls Tryz.prog 11 #[.agg #[v]] w fun e w'=>∃ c f,e = .returned (.agg #[.int .i64 c,.int .i64 f])∧Fl nmp flp F n c f∧Kz w w':=by
  have HE:Hid (∀ W,Kz w W→Calls Tryz.prog 37 #[v] W fun e w'=>e = .returned (.bool (dc (0 < n∧n≤3000∧(F (n - 1)).a.k=1)))∧Kz W w'):=(fun W hz=>im_ends W (hf.kz hz) hn:∀ W,_)
  have HM:Hid (∀ W,Kz w W→Calls Tryz.prog 38 #[v] W fun e w'=>∃ r:Int,e = .returned (.int .i64 r)∧Mis F n r∧Kz W w'):=(fun W hz=>im_misshapen W (hz.gd hg) (hf.kz hz) hn hp hq hm:∀ W,_)
  have HD:Hid (∀ W,Kz w W→0 < n→n≤3000→Kn F n→Calls Tryz.prog 39 #[v] W fun e w'=>(∃ r:Int,e = .returned (.int .i64 r)∧Dis F n r)∧w'.os=W.os∧w'.output=W.output∧W.heap.size≤w'.heap.size∧∀ k,k < W.heap.size→w'.heap[k]? = W.heap[k]?):=(fun W hz h0 h1 hK=>im_disorder W (hf.kz hz) h0 h1 hK hq:∀ W,_)
  have HT:Hid (∀ W,Kz w W→n≤3000→Kn F n→Calls Tryz.prog 41 #[v] W fun e w'=>∃ u:Value,e = .returned u∧Kz W w'∧Calls Tryz.prog 40 #[u] w' fun e w''=>(∃ r:Int,e = .returned (.int .i64 r)∧Tdp (dpr F n n) n r)∧w''.os=w'.os∧w''.output=w'.output∧w'.heap.size≤w''.heap.size∧∀ k,k < w'.heap.size→w''.heap[k]? = w'.heap[k]?):=(fun W hz h1 hK=>(im_kidrows W (hf.kz hz) h1).mono fun e w' h=>by obtain ⟨u,PK,CK,he,hu,hk,hz2⟩:=h;exact ⟨u,he,hz2,im_deep w' hu hk h1 hK hq⟩:∀ W,_)
  obtain ⟨pf,cf,rfl,_⟩:=hf
  obtain ⟨W2,hW2⟩:∃ W2,W2=(w.alloc (.cells #[.slice pf n cf] 31)).alloc (.cells #[.int .i64 0,.int .i64 0] 27):=⟨_,rfl⟩
  have hs2:Rs W2 w.heap.size (.slice pf n cf):=by rw [hW2];exact Rs.new _ _ _ _
  have hb2:Kz w W2:=by rw [hW2];exact .of_below (bel2 _ _ _)
  have HS2:Hid (Rs W2 w.heap.size (.slice pf n cf)∧Kz w W2):=(⟨hs2,hb2⟩:_∧_)
  clear hg hn hp hq hm hs2 hb2
  go_enter Tryz.func11,Tryz.ntmps11
  go_wp2_with fail
  rw [← hW2]
  clear hW2
  refine ((show ∀ W,Kz w W→Calls Tryz.prog 37 #[.slice pf n cf] W _ from HE) W2 HS2.2).mono ?_
  rintro e w3 ⟨rfl,k3⟩
  have HS3:Hid (Rs w3 w.heap.size (.slice pf n cf)∧Kz w w3):=(⟨HS2.1.kz k3,HS2.2.trans k3⟩:_∧_)
  clear HS2 k3 HE
  by_cases g : 0 < n∧n≤3000∧(F (n - 1)).a.k=1
  case neg =>
    rw [dc_f g]
    have hFl:Fl nmp flp F n 1 0:=.none0 (by omega)
    have hrs:=(show Rs w3 w.heap.size (.slice pf n cf)∧Kz w w3 from HS3)
    have HX:Hid (Fl nmp flp F n 1 0∧Kz w ((w3.setCell ⟨w.heap.size+1,0,none⟩ (.int .i64 1)).setCell ⟨w.heap.size+1,1,none⟩ (.int .i64 0))):=(⟨hFl,(hrs.1.retz hrs.2 1 0).2.2⟩:_∧_)
    have e0:=(hrs.1.retz hrs.2 1 0).1
    have e1:=(hrs.1.retz hrs.2 1 0).2.1
    have c1:=hrs.1.r0
    have c2:=hrs.1.r1
    have c3:=hrs.1.z0
    have c4:=hrs.1.z1
    clear hrs hFl
    go_wp2_with fail
    refine bodyPost_ret (by simp [results,Tryz.results11,go_sem,e0,e1];rfl) rfl ?_
    exact ⟨1,0,rfl,HX.1,HX.2⟩
  rw [dc_t g]
  obtain ⟨h0,h1,h2⟩:=g
  have HG:Hid (0 < n∧n≤3000∧(F (n - 1)).a.k=1):=(⟨h0,h1,h2⟩:_∧_∧_)
  clear h0 h1 h2
  have c0:=(show Rs w3 w.heap.size (.slice pf n cf)∧Kz w w3 from HS3).1.ct
  go_wp2_with fail
  refine ((show ∀ W,Kz w W→Calls Tryz.prog 38 #[.slice pf n cf] W _ from HM) w3 HS3.2).mono ?_
  rintro e w4 ⟨r,rfl,hmis,k4⟩
  have HS4:Hid (Rs w4 w.heap.size (.slice pf n cf)∧Kz w w4):=(⟨HS3.1.kz k4,HS3.2.trans k4⟩:_∧_)
  clear HS3 k4 HM c0
  cases hmis with
  | «at» i hi ha hd =>
    have hFl:Fl nmp flp F n 2 (i:Int):=.shape i HG.1 HG.2.1 HG.2.2 hi ha hd
    clear ha hd
    have hrs:=(show Rs w4 w.heap.size (.slice pf n cf)∧Kz w w4 from HS4)
    have HX:Hid (Fl nmp flp F n 2 (i:Int)∧Kz w ((w4.setCell ⟨w.heap.size+1,0,none⟩ (.int .i64 2)).setCell ⟨w.heap.size+1,1,none⟩ (.int .i64 (i:Int)))):=(⟨hFl,(hrs.1.retz hrs.2 2 (i:Int)).2.2⟩:_∧_)
    have e0:=(hrs.1.retz hrs.2 2 (i:Int)).1
    have e1:=(hrs.1.retz hrs.2 2 (i:Int)).2.1
    have c1:=hrs.1.r0
    have c2:=hrs.1.r1
    have c3:=hrs.1.z0
    have c4:=hrs.1.z1
    clear hrs hFl
    go_wp2_with fail
    refine bodyPost_ret (by simp [results,Tryz.results11,go_sem,e0,e1];rfl) rfl ?_
    exact ⟨2,(i:Int),rfl,HX.1,HX.2⟩
  | none ha =>
    have HNA:Hid (∀ j,j < n→ndk nmp flp F j):=ha
    have hK:=mis_kn ha
    have HKN:Hid (Kn F n):=hK
    have c0:=(show Rs w4 w.heap.size (.slice pf n cf)∧Kz w w4 from HS4).1.ct
    have hcd:=(show ∀ W,Kz w W→0 < n→n≤3000→Kn F n→_ from HD) w4 HS4.2 HG.1 HG.2.1 hK
    clear ha hK HD
    go_wp2_with fail
    refine hcd.mono ?_
    rintro e w5 ⟨⟨r,rfl,hdis⟩,k5'⟩
    have k5:=kz_of k5'
    have HS5:Hid (Rs w5 w.heap.size (.slice pf n cf)∧Kz w w5):=(⟨HS4.1.kz k5,HS4.2.trans k5⟩:_∧_)
    clear HS4 k5 k5' c0 hcd
    cases hdis with
    | «at» i hi ha hd =>
      have hFl:Fl nmp flp F n 3 (i:Int):=.order i HG.1 HG.2.1 HG.2.2 HNA hi ha hd
      clear ha hd
      have hrs:=(show Rs w5 w.heap.size (.slice pf n cf)∧Kz w w5 from HS5)
      have HX:Hid (Fl nmp flp F n 3 (i:Int)∧Kz w ((w5.setCell ⟨w.heap.size+1,0,none⟩ (.int .i64 3)).setCell ⟨w.heap.size+1,1,none⟩ (.int .i64 (i:Int)))):=(⟨hFl,(hrs.1.retz hrs.2 3 (i:Int)).2.2⟩:_∧_)
      have e0:=(hrs.1.retz hrs.2 3 (i:Int)).1
      have e1:=(hrs.1.retz hrs.2 3 (i:Int)).2.1
      have c1:=hrs.1.r0
      have c2:=hrs.1.r1
      have c3:=hrs.1.z0
      have c4:=hrs.1.z1
      clear hrs hFl
      go_wp2_with fail
      refine bodyPost_ret (by simp [results,Tryz.results11,go_sem,e0,e1];rfl) rfl ?_
      exact ⟨3,(i:Int),rfl,HX.1,HX.2⟩
    | last ha hd =>
      have hFl:Fl nmp flp F n 3 ((n:Int) - 1):=.whole HG.1 HG.2.1 HG.2.2 HNA ha hd
      have hn1 : 0≤(n:Int) - 1:=by have:=(show 0 < n∧_ from HG).1;omega
      clear ha hd
      obtain ⟨rr,hrr⟩:∃ rr,rr=(n:Int) - 1:=⟨_,rfl⟩
      rw [← hrr] at hFl hn1 ⊢
      clear hrr
      have hrs:=(show Rs w5 w.heap.size (.slice pf n cf)∧Kz w w5 from HS5)
      have HX:Hid (Fl nmp flp F n 3 rr∧Kz w ((w5.setCell ⟨w.heap.size+1,0,none⟩ (.int .i64 3)).setCell ⟨w.heap.size+1,1,none⟩ (.int .i64 rr))):=(⟨hFl,(hrs.1.retz hrs.2 3 rr).2.2⟩:_∧_)
      have e0:=(hrs.1.retz hrs.2 3 rr).1
      have e1:=(hrs.1.retz hrs.2 3 rr).2.1
      have c1:=hrs.1.r0
      have c2:=hrs.1.r1
      have c3:=hrs.1.z0
      have c4:=hrs.1.z1
      clear hrs hFl
      go_wp2_with fail
      refine bodyPost_ret (by simp [results,Tryz.results11,go_sem,e0,e1];rfl) rfl ?_
      exact ⟨3,rr,rfl,HX.1,HX.2⟩
    | none ha hd =>
      have HND:Hid ((∀ j,j < n→szl F n j ≠ 0)∧szl F n (n - 1)=(n:Int)):=(⟨ha,hd⟩:_∧_)
      have c0:=(show Rs w5 w.heap.size (.slice pf n cf)∧Kz w w5 from HS5).1.ct
      have hct:=(show ∀ W,Kz w W→n≤3000→Kn F n→_ from HT) w5 HS5.2 HG.2.1 HKN
      clear ha hd HT
      go_wp2_with fail
      refine hct.mono ?_
      rintro e w6' ⟨u,rfl,k5,hcu⟩
      have HS6':Hid (Rs w6' w.heap.size (.slice pf n cf)∧Kz w w6'):=(⟨HS5.1.kz k5,HS5.2.trans k5⟩:_∧_)
      clear HS5 k5 c0 hct
      go_wp2_with fail
      refine hcu.mono ?_
      rintro e w6 ⟨⟨r,rfl,htd⟩,k6'⟩
      have k6:=kz_of k6'
      have HS6:Hid (Rs w6 w.heap.size (.slice pf n cf)∧Kz w w6):=(⟨HS6'.1.kz k6,HS6'.2.trans k6⟩:_∧_)
      clear HS6' k6 k6' hcu
      cases htd with
      | «at» i hi ha hd =>
        have hFl:Fl nmp flp F n 4 (i:Int):=.depth i HG.1 HG.2.1 HG.2.2 HNA HND.1 HND.2 hi ha hd
        clear ha hd
        have hrs:=(show Rs w6 w.heap.size (.slice pf n cf)∧Kz w w6 from HS6)
        have HX:Hid (Fl nmp flp F n 4 (i:Int)∧Kz w ((w6.setCell ⟨w.heap.size+1,0,none⟩ (.int .i64 4)).setCell ⟨w.heap.size+1,1,none⟩ (.int .i64 (i:Int)))):=(⟨hFl,(hrs.1.retz hrs.2 4 (i:Int)).2.2⟩:_∧_)
        have e0:=(hrs.1.retz hrs.2 4 (i:Int)).1
        have e1:=(hrs.1.retz hrs.2 4 (i:Int)).2.1
        have c1:=hrs.1.r0
        have c2:=hrs.1.r1
        have c3:=hrs.1.z0
        have c4:=hrs.1.z1
        clear hrs hFl
        go_wp2_with fail
        refine bodyPost_ret (by simp [results,Tryz.results11,go_sem,e0,e1];rfl) rfl ?_
        exact ⟨4,(i:Int),rfl,HX.1,HX.2⟩
      | none ha =>
        have hFl:Fl nmp flp F n 0 0:=.sound HG.1 HG.2.1 HG.2.2 HNA HND.1 HND.2 ha
        clear ha
        have hrs:=(show Rs w6 w.heap.size (.slice pf n cf)∧Kz w w6 from HS6)
        have HX:Hid (Fl nmp flp F n 0 0∧Kz w ((w6.setCell ⟨w.heap.size+1,0,none⟩ (.int .i64 0)).setCell ⟨w.heap.size+1,1,none⟩ (.int .i64 0))):=(⟨hFl,(hrs.1.retz hrs.2 0 0).2.2⟩:_∧_)
        have e0:=(hrs.1.retz hrs.2 0 0).1
        have e1:=(hrs.1.retz hrs.2 0 0).2.1
        have c1:=hrs.1.r0
        have c2:=hrs.1.r1
        have c3:=hrs.1.z0
        have c4:=hrs.1.z1
        clear hrs hFl
        go_wp2_with fail
        refine bodyPost_ret (by simp [results,Tryz.results11,go_sem,e0,e1];rfl) rfl ?_
        exact ⟨0,0,rfl,HX.1,HX.2⟩
theorem Fl.uniq {nm fl:ByteArray→Prop} {F:Nat→Gv} {n:Nat} {c f c' f':Int} (h:Fl nm fl F n c f) (h':Fl nm fl F n c' f'):c=c'∧f=f':=by
  cases h with
  | none0 a=>cases h' with
    | none0 b=>exact ⟨rfl,rfl⟩
    | _=>exfalso;omega
  | shape i a1 a2 a3 a4 a5 a6=>cases h' with
    | none0 b=>exfalso;omega
    | shape j b1 b2 b3 b4 b5 b6=>exact ⟨rfl,by rw [first_uniq a5 a6 b5 b6]⟩
    | order j b1 b2 b3 b4=>exact absurd (b4 i a4) a6
    | whole b1 b2 b3 b4=>exact absurd (b4 i a4) a6
    | depth j b1 b2 b3 b4=>exact absurd (b4 i a4) a6
    | sound b1 b2 b3 b4=>exact absurd (b4 i a4) a6
  | order i a1 a2 a3 a4 a5 a6 a7=>cases h' with
    | none0 b=>exfalso;omega
    | shape j b1 b2 b3 b4 b5 b6=>exact absurd (a4 j b4) b6
    | order j b1 b2 b3 b4 b5 b6 b7=>exact ⟨rfl,by rw [first_uniq (P:=fun k=>szl F n k ≠ 0) a6 (fun z=>z a7) b6 (fun z=>z b7)]⟩
    | whole b1 b2 b3 b4 b5=>exact absurd a7 (b5 i a5)
    | depth j b1 b2 b3 b4 b5=>exact absurd a7 (b5 i a5)
    | sound b1 b2 b3 b4 b5=>exact absurd a7 (b5 i a5)
  | whole a1 a2 a3 a4 a5 a6=>cases h' with
    | none0 b=>exfalso;omega
    | shape j b1 b2 b3 b4 b5 b6=>exact absurd (a4 j b4) b6
    | order j b1 b2 b3 b4 b5 b6 b7=>exact absurd b7 (a5 j b5)
    | whole b1 b2 b3 b4 b5=>exact ⟨rfl,rfl⟩
    | depth j b1 b2 b3 b4 b5 b6=>exact absurd b6 a6
    | sound b1 b2 b3 b4 b5 b6=>exact absurd b6 a6
  | depth i a1 a2 a3 a4 a5 a6 a7 a8 a9=>cases h' with
    | none0 b=>exfalso;omega
    | shape j b1 b2 b3 b4 b5 b6=>exact absurd (a4 j b4) b6
    | order j b1 b2 b3 b4 b5 b6 b7=>exact absurd b7 (a5 j b5)
    | whole b1 b2 b3 b4 b5 b6=>exact absurd a6 b6
    | depth j b1 b2 b3 b4 b5 b6 b7 b8 b9=>exact ⟨rfl,by rw [first_uniq (P:=fun k=>dpr F n n k≤100) a8 (by omega) b8 (by omega)]⟩
    | sound b1 b2 b3 b4 b5 b6 b7=>have:=b7 i a7;omega
  | sound a1 a2 a3 a4 a5 a6 a7=>cases h' with
    | none0 b=>exfalso;omega
    | shape j b1 b2 b3 b4 b5 b6=>exact absurd (a4 j b4) b6
    | order j b1 b2 b3 b4 b5 b6 b7=>exact absurd b7 (a5 j b5)
    | whole b1 b2 b3 b4 b5 b6=>exact absurd a6 b6
    | depth j b1 b2 b3 b4 b5 b6 b7 b8 b9=>have:=a7 j b7;omega
    | sound b1 b2 b3 b4 b5 b6 b7=>exact ⟨rfl,rfl⟩
theorem eq_fault (c f:Int) (w:World):Calls Tryz.prog 12 #[.agg #[.int .i64 c,.int .i64 f],.agg #[.int .i64 c,.int .i64 f]] w fun e w'=>e = .returned (.bool true)∧Below w.heap.size w w':=by
  have h1:(c != c)=false:=by simp
  have h2:(f != f)=false:=by simp
  go_enter Tryz.func12,Tryz.ntmps12
  go_wp2_with fail
  go_ret
  exact ⟨rfl,bel2 _ _ _⟩
theorem smr_p {F:Nat→Gv} {n:Nat} (h:n+smr F n≤1048576):(∀ i,i < n→(F i).p≤1048576)∧∀ i,i < n→(F i).q≤1048576:=by
  constructor
  all_goals
    intro i hi
    have hsu:=smr_mono F (show i+1≤n from hi)
    have hss:smr F (i+1)=smr F i+(F i).p+(F i).q:=rfl
    omega
theorem law_sheetok {pa : Option Addr} {ca n : Nat} {F : Nat → Gv} (w : World) (hg : Gd w) (ha : RowF w (.slice pa n ca) n F) (hn : (n : Int) < 140737488355328)
    (hF:∀ i,i < n→((F i).a.x.size:Int) < 140737488355328∧((F i).p:Int) < 140737488355328∧(∀ j,j < (F i).p→(((F i).A j).size:Int) < 140737488355328)∧((F i).q:Int) < 140737488355328)
    (hm:∀ i,i < n → -9223372036854775808≤(F i).a.m∧(F i).a.m≤9223372036854775807) :
    Calls Tryz.prog 3 #[.agg #[.slice pa n ca]] w fun e w'=>e = .returned (.bool true)∧Rd.Kept w w':=by
  have HSZ:Hid (∀ o:Obj,Calls Tryz.prog 8 #[.agg #[.slice pa n ca],.int .i64 1048576] (w.alloc o) fun e w'=>∃ r:Int,e = .returned (.int .i64 r)∧(0≤r→(n:Int)+(smr F n:Int)≤1048576) ∧ -1≤r∧r≤1048576∧Below (w.alloc o).heap.size (w.alloc o) w'):=(fun o=>sz_sheet (w.alloc o) (ha.below (bel1 _ _)) hn hF:∀ o:Obj,_)
  have HA:Hid (RowF w (.slice pa n ca) n F∧Gd w∧∀ i,i < n → -9223372036854775808≤(F i).a.m∧(F i).a.m≤9223372036854775807):=(⟨ha,hg,hm⟩:_∧_∧_)
  clear ha hn hF hg hm
  go_enter Tryz.func3,Tryz.ntmps3
  go_wp2_with fail
  refine ((show ∀ o:Obj,_ from HSZ) _).mono ?_
  rintro e w1 ⟨r,rfl,hr1,hr2,hr3,hb1⟩
  clear HSZ
  have B1:Kz w w1:=.of_below ((bel1 w _).trans (hb1.mono (by simp)))
  rcases Int.lt_or_le r 0 with h | h
  · have HB:Hid (Kz w w1):=B1
    clear B1 hb1 hr1 HA
    go_wp2_with fail
    go_ret
    exact ⟨rfl,(show Kz w w1 from HB).kept⟩
  · have h':¬ r < 0:=by omega
    have hsum:n+smr F n≤1048576:=by have:=hr1 h;omega
    have HS:Hid (n+smr F n≤1048576):=hsum
    have c0:w1.cell? ⟨w.heap.size,0,none⟩=some (.slice pa n ca):=cell_keepz (.of_below hb1) (cell_new1 w _ 24)
    have HK1:Hid (Kz w w1∧RowF w1 (.slice pa n ca) n F∧w1.cell? ⟨w.heap.size,0,none⟩=some (.slice pa n ca)):=(⟨B1,HA.1.kz B1,c0⟩:_∧_∧_)
    clear hr1 hsum hb1 B1
    go_wp2_with fail
    refine (to_sheet w1 HK1.2.1 HS).mono ?_
    rintro e w2 ⟨v1,g1,t1,rfl,o1,hb2⟩
    have k2:Kz w1 w2:=.of_below hb2
    have HK2:Hid (Kz w w2∧RowF w2 (.slice pa n ca) n F∧w2.cell? ⟨w.heap.size,0,none⟩=some (.slice pa n ca)∧RowF w2 v1 n F):=(⟨HK1.1.trans k2,HK1.2.1.kz k2,cell_keepz k2 HK1.2.2,o1.row⟩:_∧_∧_∧_)
    obtain ⟨p1,q1,rfl,_⟩:=o1.sl
    clear c0 HK1 o1 hb2 k2
    go_wp2_with fail
    refine (sp_sheet nm_s fl_s w2 HK2.2.2.2 (by have:=(show n+smr F n≤1048576 from HS);omega) (smr_p HS).1 (smr_p HS).2).mono ?_
    rintro e w3 ⟨cc,ff,rfl,hfl,hb3⟩
    have k3:Kz w2 w3:=.of_below hb3
    have HFL:Hid (Fl nmp flp F n cc ff):=hfl
    have HK3:Hid (Kz w w3∧RowF w3 (.slice pa n ca) n F∧w3.cell? ⟨w.heap.size,0,none⟩=some (.slice pa n ca)):=(⟨HK2.1.trans k3,HK2.2.1.kz k3,cell_keepz k3 HK2.2.2.1⟩:_∧_∧_)
    have c0a:∀ o:Obj,(w3.alloc o).cell? ⟨w.heap.size,0,none⟩=some (.slice pa n ca):=fun o=>cell_keepz (.of_below (bel1 w3 o)) HK3.2.2
    obtain ⟨W4,hW4⟩:∃ W4,W4=w3.alloc (.cells #[.int .i64 cc,.int .i64 ff] 27):=⟨_,rfl⟩
    have k4:Kz w3 W4:=by rw [hW4];exact .of_below (bel1 _ _)
    have HK4:Hid (Kz w W4∧RowF W4 (.slice pa n ca) n F∧W4.cell? ⟨w.heap.size,0,none⟩=some (.slice pa n ca)∧W4.cell? ⟨w3.heap.size,0,none⟩=some (.int .i64 cc)∧W4.cell? ⟨w3.heap.size,1,none⟩=some (.int .i64 ff)):=(⟨HK3.1.trans k4,HK3.2.1.kz k4,cell_keepz k4 HK3.2.2,by rw [hW4];exact (cell_new2 _ _ _ _).1,by rw [hW4];exact (cell_new2 _ _ _ _).2⟩:_∧_∧_∧_∧_)
    clear HK2 hfl hb3 k3 k4 HK3
    go_wp2_with fail
    rw [← hW4]
    clear hW4 c0a
    refine (to_sheet W4 HK4.2.1 HS).mono ?_
    rintro e w5 ⟨vx,gx,tx',rfl,ox,hb5⟩
    obtain ⟨px,kx,rfl,_⟩:=ox.sl
    have k5:Kz W4 w5:=.of_below hb5
    obtain ⟨W6,hW6⟩:∃ W6,W6=w5.alloc (.cells #[.slice px n kx] 31):=⟨_,rfl⟩
    have k6:Kz w5 W6:=by rw [hW6];exact .of_below (bel1 _ _)
    have k46:=k5.trans k6
    have HK6:Hid (Kz w W6∧RowF W6 (.slice pa n ca) n F∧RowF W6 (.slice px n kx) n F∧W6.cell? ⟨w.heap.size,0,none⟩=some (.slice pa n ca)∧W6.cell? ⟨w3.heap.size,0,none⟩=some (.int .i64 cc)∧W6.cell? ⟨w3.heap.size,1,none⟩=some (.int .i64 ff)∧W6.cell? ⟨w5.heap.size,0,none⟩=some (.slice px n kx)):=(⟨HK4.1.trans k46,HK4.2.1.kz k46,ox.row.kz k6,cell_keepz k46 HK4.2.2.1,cell_keepz k46 HK4.2.2.2.1,cell_keepz k46 HK4.2.2.2.2,by rw [hW6];exact cell_new1 _ _ _⟩:_∧_∧_∧_∧_∧_∧_)
    clear HK4 ox hb5 k5 k6 k46
    go_wp2_with fail
    rw [← hW6]
    clear hW6
    refine (im_sheet W6 (HK6.1.gd HA.2.1) HK6.2.2.1 (by have:=(show n+smr F n≤1048576 from HS);omega) (smr_p HS).1 (smr_p HS).2 HA.2.2).mono ?_
    rintro e w7 ⟨cg,fg,rfl,hflg,k7⟩
    obtain ⟨rfl,rfl⟩:=Fl.uniq hflg (show Fl nmp flp F n cc ff from HFL)
    obtain ⟨W8,hW8⟩:∃ W8,W8=w7.alloc (.cells #[.int .i64 cg,.int .i64 fg] 27):=⟨_,rfl⟩
    have k8:Kz w7 W8:=by rw [hW8];exact .of_below (bel1 _ _)
    have k68:=k7.trans k8
    have HK8:Hid (Kz w W8∧RowF W8 (.slice pa n ca) n F∧RowF W8 (.slice px n kx) n F∧W8.cell? ⟨w.heap.size,0,none⟩=some (.slice pa n ca)∧W8.cell? ⟨w5.heap.size,0,none⟩=some (.slice px n kx)):=(⟨HK6.1.trans k68,HK6.2.1.kz k68,HK6.2.2.1.kz k68,cell_keepz k68 HK6.2.2.2.1,cell_keepz k68 HK6.2.2.2.2.2.2⟩:_∧_∧_∧_∧_)
    have x0:∀ o:Obj,(w7.alloc o).cell? ⟨w3.heap.size,0,none⟩=some (.int .i64 cg):=fun o=>cell_keepz (k7.alloc o) HK6.2.2.2.2.1
    have x1:∀ o:Obj,(w7.alloc o).cell? ⟨w3.heap.size,1,none⟩=some (.int .i64 fg):=fun o=>cell_keepz (k7.alloc o) HK6.2.2.2.2.2.1
    clear HK6 hflg HFL k7 k8 k68
    go_wp2_with fail
    rw [← hW8]
    clear hW8 x0 x1
    refine (eq_fault cg fg W8).mono ?_
    rintro e w9 ⟨rfl,hb9⟩
    have k9:Kz W8 w9:=.of_below hb9
    have HK9:Hid (Kz w w9∧RowF w9 (.slice pa n ca) n F∧RowF w9 (.slice px n kx) n F∧w9.cell? ⟨w.heap.size,0,none⟩=some (.slice pa n ca)∧w9.cell? ⟨w5.heap.size,0,none⟩=some (.slice px n kx)):=(⟨HK8.1.trans k9,HK8.2.1.kz k9,HK8.2.2.1.kz k9,cell_keepz k9 HK8.2.2.2.1,cell_keepz k9 HK8.2.2.2.2⟩:_∧_∧_∧_∧_)
    have c5:w9.cell? ⟨w5.heap.size,0,none⟩=some (.slice px n kx):=HK9.2.2.2.2
    have c0:w9.cell? ⟨w.heap.size,0,none⟩=some (.slice pa n ca):=HK9.2.2.2.1
    have HTO:Hid (∀ W,Kz w9 W→Calls Tryz.prog 10 #[.agg #[.slice pa n ca]] W fun e w'=>∃ v g t,e = .returned (.agg #[v])∧OwnF w' v g n F t W.heap.size w'.heap.size∧Below W.heap.size W w'):=(fun W hb=>to_sheet W (HK9.2.1.kz hb) HS:∀ W,_)
    have HEQ:Hid (∀ W v2,Kz w9 W→RowF W v2 n F→Calls Tryz.prog 13 #[.agg #[.slice px n kx],.agg #[v2]] W fun e w'=>e = .returned (.bool true)∧Below W.heap.size W w'):=(fun W v2 hb h2=>eq_sheet W (HK9.2.2.1.kz hb) h2 HS:∀ W v2,_)
    have HC5:Hid (∀ W,Kz w9 W→W.cell? ⟨w5.heap.size,0,none⟩=some (.slice px n kx)∧W.cell? ⟨w.heap.size,0,none⟩=some (.slice pa n ca)):=(fun W hb=>⟨cell_keepz hb c5,cell_keepz hb c0⟩:∀ W,_)
    clear HK8 hb9 k9
    go_wp2_with fail
    go_region_held_law (fun W'=>W'.cell? ⟨w5.heap.size,0,none⟩=some (.slice px n kx)∧W'.cell? ⟨w.heap.size,0,none⟩=some (.slice pa n ca)) (first | exact s11 | exact s10 | exact ⟨c5,c0⟩)
      (first
        | (go_at_call 10;refine ((show ∀ W,Kz w9 W→_ from HTO) _ (by exact Kz.drewN (Kz.refl _) 1)).mono ?_;rintro e w10 ⟨v2,g2,t2,rfl,o2,hb10⟩;have K10:Kz w9 w10:=⟨hb10.os,hb10.output,hb10.size,hb10.block⟩;have s10:=(show ∀ W,Kz w9 W→_ from HC5) w10 K10)
        | (go_at_call 13;refine ((show ∀ W v2,_ from HEQ) _ _ K10 o2.row).mono ?_;rintro e w11 ⟨rfl,hb11⟩;have K11:Kz w9 w11:=K10.trans (.of_below hb11);have s11:=(show ∀ W,Kz w9 W→_ from HC5) w11 K11))
    have HB11:Hid (Kz w w11):=HK9.1.trans K11
    clear c5 c0 HC5 HEQ HTO o2 hb10 K10 s10 hb11 K11 s11
    go_wp2_with fail
    go_ret
    exact ⟨rfl,(show Kz w w11 from HB11).kept⟩
section
variable {H:Type} {enc:TypeId × Value→H} {w:World} {base:Nat} {sp:Nat→Bool} {held:Bool}
theorem read_num {fuel : Nat} {cs : List Value} {x : DataW H × List MemPlace} {b : Addr} (h : DataW.trod enc Tryz.prog w base sp held fuel 111 cs = some x) (hc : w.cells? base b 9 = some cs) :
    ∃ z:Int,w.cell? ⟨b.block,b.off+5,none⟩=some (.int .i64 z) ∧ -9223372036854775808≤z∧z≤9223372036854775807:=by
  obtain ⟨_,hlen,hcell⟩:=World.cells?_some hc
  obtain ⟨xs,n,_,rfl,hl,hxl,hf⟩:=DataW.trod_struct Tryz.underlying111 h
  match cs,hlen with
  | [c0,c1,c2,c3,c4,c5,c6,c7,c8],_ =>
    match xs,hxl with
    | [y0,y1,y2,y3,y4,y5,y6,y7,y8],_ =>
      have t5:=hf 5 _ rfl
      simp [cells2] at t5
      obtain ⟨z5,e5,_,g5⟩:=DataW.trod_int Tryz.underlying2 t5
      simp only [List.cons.injEq,and_true] at e5
      subst e5
      refine ⟨z5,?_,?_,?_⟩
      · have:=hcell 5 (by omega);simpa [Addr.add] using this
      · have:=g5;simp [Lit.wf,IntKind.min,IntKind.max,IntKind.signed,IntKind.bits] at this;omega
      · have:=g5;simp [Lit.wf,IntKind.min,IntKind.max,IntKind.signed,IntKind.bits] at this;omega
theorem read_forms2 {fuel : Nat} {cs : List Value} {x : DataW H × List MemPlace} (h : DataW.trod enc Tryz.prog w base sp held fuel 22 cs = some x) (hz : Sz 22 x.1) :
    ∃ (pa:Option Addr) (ca n:Nat) (F:Nat→Gv),cs = [.slice pa n ca]∧RowF w (.slice pa n ca) n F∧(n:Int) < 140737488355328∧(∀ i,i < n→((F i).a.x.size:Int) < 140737488355328∧((F i).p:Int) < 140737488355328∧(∀ j,j < (F i).p→(((F i).A j).size:Int) < 140737488355328)∧((F i).q:Int) < 140737488355328)∧∀ i,i < n → -9223372036854775808≤(F i).a.m∧(F i).a.m≤9223372036854775807:=by
  obtain ⟨pa,ca,n,F,rfl,hR,hn,hF⟩:=read_forms h hz
  refine ⟨pa,ca,n,F,rfl,hR,hn,hF,fun i hi=>?_⟩
  obtain ⟨pf,cf,e1,hf2⟩:=hR
  obtain ⟨c,e2,_,hrc⟩:=hf2 (by omega)
  obtain ⟨vn,vk,hc9,_,_⟩:=hrc i hi
  rcases Deep.open_slice Tryz.underlying22 h with ⟨e3,rfl⟩ | ⟨a,len,cap,m,k,D,Pl,e3,hb,hl,hm,hmm,rfl,hx⟩
  · simp only [List.cons.injEq,Value.slice.injEq,and_true] at e3
    omega
  · have hle:len≤m:=by rw [hmm];split <;> omega
    simp only [List.cons.injEq,Value.slice.injEq,and_true] at e3
    obtain ⟨e4,e5,_⟩:=e3
    simp only [Value.slice.injEq] at e1
    obtain ⟨e6,_⟩:=e1
    have e7:a=c:=by rw [e4] at e6;rw [← e6] at e2;exact Option.some.inj e2
    rw [cells47] at hx
    obtain ⟨cs',h1,h2⟩:=hx i (by omega)
    obtain ⟨z,q1,q2,q3⟩:=read_num h2 h1
    rw [e7] at q1
    have q4:=hc9.c5
    rw [q1] at q4
    have e8:z=(F i).a.m:=by simpa using q4
    omega
end
end Go.Proofs.YtomcmnompajnlaaGreatDoor.Fo
