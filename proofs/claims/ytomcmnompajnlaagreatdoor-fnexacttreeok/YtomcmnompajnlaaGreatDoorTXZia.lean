import Derived.Test.YtomcmnompajnlaaGreatDoorTXDuc
import Derived.Test.YtomcmnompajnlaaGreatDoorTXZSkl
import Derived.Test.YtomcmnompajnlaaGreatDoorBSpy
import Derived.Test.YtomcmnompajnlaaGreatDoorBSpf
import Derived.Test.YtomcmnompajnlaaGreatDoorBSpe
import Derived.Test.YtomcmnompajnlaaGreatDoorBTud
import Derived.Test.YtomcmnompajnlaaGreatDoorBSkm
import Derived.Test.YtomcmnompajnlaaGreatDoorBBab
import Derived.Test.YtomcmnompajnlaaGreatDoorBBaa
import Derived.Test.YtomcmnompajnlaaGreatDoorProg
import GoSem.Claim
import GoSem.ClaimJoined
import GoSem.ClaimMapViews
import Derived.JoinedTies
import Derived.KernelRfl
import Derived.WalkKit
import Derived.ProofKit
import Derived.OpenShut
import Derived.Handy
import Derived.Laws.Strings3
import Derived.Lib.Strings
import Derived.Laws.OwnMore
import Derived.Laws.IdiomStrings
import Derived.Lib.UnsafeStr
import Derived.Deep.QuietTactic
import Derived.BigQuiet
import Derived.Deep.AppendLies
import Derived.Deep.RegionHeldLaw
import Derived.Deep.CutBlock
import Derived.Laws.MakeOwn
import Derived.OwnWalk
import Derived.WalkSpells
import Derived.Deep.Slices
import Derived.SizedLaws
import Derived.Carry
import Derived.Test.YtomcmnompajnlaaGreatDoorBTkc
import Derived.Test.YtomcmnompajnlaaGreatDoorBSdj
import Derived.Test.YtomcmnompajnlaaGreatDoorBSdd
import Derived.Test.YtomcmnompajnlaaGreatDoorBSbk
import Derived.Test.YtomcmnompajnlaaGreatDoorBSda
import Derived.Test.YtomcmnompajnlaaGreatDoorBScc
import Derived.Test.YtomcmnompajnlaaGreatDoorBSbd
import Derived.Test.YtomcmnompajnlaaGreatDoorBRab
import Derived.Test.YtomcmnompajnlaaGreatDoorBShc
import Derived.Test.YtomcmnompajnlaaGreatDoorBQua
import Derived.Deep.MidRow
import Derived.Shelf.Strconv.Clone
import Derived.Lib.ConvBytes
import Derived.Lib.AtoiErrMem
import Derived.Lib.AtoiAllMem
import Derived.Laws.Closers25
import Derived.Laws.Closers25b
import Derived.BigCall
import Derived.BigGuard
import Derived.Lib.IfaceNeq
import Derived.Lib.IfaceEq
import Derived.Deep.RegionWith
import Derived.RangeFuncNested
import Derived.RangeFuncBound
import Derived.RangeFuncCalls
import Derived.RangeFuncLeaves
import Derived.Shelf.Abstract
import Derived.Shelf.RegionOpen
import Derived.OwnWalkIn
import Derived.TacticsInMore
import Derived.LoopNIn
import Derived.LoopIn
import Derived.Maps.AppendAt
import Derived.Lib.BufferRead
import Derived.BigRegion
import Derived.Deep.Cut
import Derived.Deep.Light
import Derived.Test.YtomcmnompajnlaaGreatDoorBQsh
import Derived.Shelf.Strings.Builder1
import Derived.Test.YtomcmnompajnlaaGreatDoorBSpb
import Derived.Test.YtomcmnompajnlaaGreatDoorBSpi
import Derived.RangeFuncFrom
import Derived.RangeFuncBox
import Derived.Test.YtomcmnompajnlaaGreatDoorBSpl
set_option maxRecDepth 100000
set_option maxHeartbeats 4000000
namespace Go.Proofs.YtomcmnompajnlaaGreatDoor.Fo.Po
open Go.ChangeShapes Go.WideShapes Go.ChangeAt Go.RowKit
set_option linter.unusedVariables false
def ftk (a:Fv):Prop:=(a.k=24→fn a.g)∧(a.k ≠ 24→fz a.g)
def lnk (a:Fv):Prop:=(1≤a.k∧a.k≤16→1≤a.l)∧0≤a.l∧a.l≤100000
theorem im_isnan (g:Nat) (hg:g < 18446744073709551616) (w:World):Calls Tryz.prog 125 #[.float .f64 g] w fun e w'=>e = .returned (.bool (!dc (fn g)))∧w'=w:=by
 rcases f_cases g hg with ⟨_,h2,g2,_⟩ | ⟨_,h2,g2,_⟩ | ⟨_,h2,g2,_⟩
 ·rw [dc_f h2]
  clear h2
  go_enter Tryz.func125,Tryz.ntmps125
  go_wp2_with fail
  go_ret
  exact ⟨rfl,rfl⟩
 all_goals
  rw [dc_t h2]
  clear h2
  go_enter Tryz.func125,Tryz.ntmps125
  go_wp2_with fail
  go_ret
  exact ⟨rfl,rfl⟩
theorem im_flt (a:Fv) (hg:a.g < 18446744073709551616) (pn:Option Addr) (p cn:Nat) (pk:Option Addr) (q ck:Nat) (w:World):Calls Tryz.prog 92 #[fmv a (.slice pn p cn) (.slice pk q ck)] w fun e w'=>e = .returned (.bool (dc (ftk a)))∧Below w.heap.size w w':=by
 obtain ⟨R,hR⟩:∃ R,R=dc (ftk a):=⟨_,rfl⟩
 have HR:Hid (R=dc (ftk a)):=hR
 rw [← hR]
 have hn:=im_isnan a.g hg
 have hfc:=f_cases a.g hg
 clear hR hg
 by_cases hk:a.k=24
 ·have hX:R=dc (fn a.g):=(show R = _ from HR).trans (dc_iff ⟨fun h=>h.1 hk,fun h=>⟨fun _=>h,fun h2=>absurd hk h2⟩⟩)
  have HX:Hid (R=dc (fn a.g)):=hX
  have hk':(a.k == 24)=true:=beq1 hk
  clear hX HR hfc hk
  unfold fmv
  obtain ⟨k,f,t,l,o,m,g,x⟩:=a
  dsimp only at hk' hn HX
  go_enter Tryz.func92,Tryz.ntmps92
  go_wp2_with fail
  refine (hn _).mono ?_
  rintro e w1 ⟨rfl,hw⟩
  clear hn
  go_wp2_with fail
  go_ret
  exact ⟨by rw [show R = _ from HX];first | rfl | (simp;done),by first | exact bel1 _ _ | (rw [hw];exact bel1 _ _)⟩
 ·have hX:R=dc (fz a.g):=(show R = _ from HR).trans (dc_iff ⟨fun h=>h.2 hk,fun h=>⟨fun h2=>absurd h2 hk,fun _=>h⟩⟩)
  have hk':(a.k == 24)=false:=bne hk
  clear HR hn hk
  unfold fmv
  obtain ⟨k,f,t,l,o,m,g,x⟩:=a
  dsimp only at hk' hfc hX
  rcases hfc with ⟨h2,_,_,g2⟩ | ⟨h2,_,_,g2⟩ | ⟨h2,_,_,g2 | g2⟩
  ·rw [dc_f h2] at hX
   subst hX
   clear h2
   go_enter Tryz.func92,Tryz.ntmps92
   go_wp2_with fail
   go_ret
   exact ⟨rfl,bel1 _ _⟩
  ·rw [dc_t h2] at hX
   subst hX
   clear h2
   go_enter Tryz.func92,Tryz.ntmps92
   go_wp2_with fail
   go_ret
   exact ⟨rfl,bel1 _ _⟩
  all_goals
   rw [dc_f h2] at hX
   subst hX
   clear h2
   go_enter Tryz.func92,Tryz.ntmps92
   go_wp2_with fail
   go_ret
   exact ⟨rfl,bel1 _ _⟩
def fa (a:Fv):Fo.Fv:=⟨a.k,a.f,a.t,a.l,a.o,a.m,a.x⟩
def frm (F:Nat→Gv) (i:Nat):Fo.Gv:=⟨fa (F i).a,(F i).p,(F i).A,(F i).q,(F i).K⟩
theorem im_line_s (a:Fv) (hk : 1≤a.k∧a.k≤16) (pn:Option Addr) (p cn:Nat) (pk:Option Addr) (q ck:Nat) (pn2:Option Addr) (p2 cn2:Nat) (pk2:Option Addr) (q2 ck2:Nat) (w:World):Calls Tryz.prog 93 #[fmv a (.slice pn p cn) (.slice pk q ck),.iface 167 (Fo.fmv (fa a) (.slice pn2 p2 cn2) (.slice pk2 q2 ck2))] w fun e w'=>e = .returned (.bool (dc (lnk a)))∧Below w.heap.size w w':=by
 have ht:=ta_ss (.agg #[.int .i64 a.k,.int .i64 a.f,.int .i64 a.t,.int .i64 a.l,.int .i64 a.o,.int .i64 a.m,.string a.x,.slice pn2 p2 cn2,.slice pk2 q2 ck2])
 obtain ⟨R,hR⟩:∃ R,R=dc (lnk a):=⟨_,rfl⟩
 have hX:R=dc (1≤a.l∧a.l≤100000):=hR.trans (dc_iff (by unfold lnk;omega))
 rw [← hR]
 clear hR hk
 unfold fmv Fo.fmv fa
 obtain ⟨k,f,t,l,o,m,g,x⟩:=a
 dsimp only at hX ht ⊢
 have hst:∀ (a:Addr) (n:Nat) (m:Mode) (w:World),(store a (.float .f64 n) m).run Tryz.prog w=stored Tryz.prog w a (.float .f64 n) m:=fun a n m w=>run_store _ _ _ _ _ rfl
 rcases Int.lt_or_le l 1 with h1 | h1
 ·rw [dc_f (by omega)] at hX
  subst hX
  have h1':¬ 1≤l:=by omega
  go_enter Tryz.func93,Tryz.ntmps93
  go_wp2_with fail
  go_ret
  exact ⟨rfl,bel2 _ _ _⟩
 ·rcases Int.lt_or_le 100000 l with h2 | h2
  ·rw [dc_f (by omega)] at hX
   subst hX
   have h2':¬ l≤100000:=by omega
   go_enter Tryz.func93,Tryz.ntmps93
   go_wp2_with fail
   go_ret
   exact ⟨rfl,bel2 _ _ _⟩
  ·rw [dc_t ⟨h1,h2⟩] at hX
   subst hX
   go_enter Tryz.func93,Tryz.ntmps93
   go_wp2_with fail
   go_ret
   exact ⟨rfl,bel2 _ _ _⟩
theorem im_line_e (a:Fv) (hk : 20≤a.k∧a.k≤37) (pn:Option Addr) (p cn:Nat) (pk:Option Addr) (q ck:Nat) (pn2:Option Addr) (p2 cn2:Nat) (pk2:Option Addr) (q2 ck2:Nat) (w:World):Calls Tryz.prog 93 #[fmv a (.slice pn p cn) (.slice pk q ck),.iface 168 (Fo.fmv (fa a) (.slice pn2 p2 cn2) (.slice pk2 q2 ck2))] w fun e w'=>e = .returned (.bool (dc (lnk a)))∧Below w.heap.size w w':=by
 have ht:=ta_es (.agg #[.int .i64 a.k,.int .i64 a.f,.int .i64 a.t,.int .i64 a.l,.int .i64 a.o,.int .i64 a.m,.string a.x,.slice pn2 p2 cn2,.slice pk2 q2 ck2])
 obtain ⟨R,hR⟩:∃ R,R=dc (lnk a):=⟨_,rfl⟩
 have hX:R=dc (0≤a.l∧a.l≤100000):=hR.trans (dc_iff (by unfold lnk;omega))
 rw [← hR]
 clear hR hk
 unfold fmv Fo.fmv fa
 obtain ⟨k,f,t,l,o,m,g,x⟩:=a
 dsimp only at hX ht ⊢
 have hst:∀ (a:Addr) (n:Nat) (m:Mode) (w:World),(store a (.float .f64 n) m).run Tryz.prog w=stored Tryz.prog w a (.float .f64 n) m:=fun a n m w=>run_store _ _ _ _ _ rfl
 rcases Int.lt_or_le l 0 with h1 | h1
 ·rw [dc_f (by omega)] at hX
  subst hX
  have h1':¬ 0≤l:=by omega
  go_enter Tryz.func93,Tryz.ntmps93
  go_wp2_with fail
  go_ret
  exact ⟨rfl,bel2 _ _ _⟩
 ·rcases Int.lt_or_le 100000 l with h2 | h2
  ·rw [dc_f (by omega)] at hX
   subst hX
   have h2':¬ l≤100000:=by omega
   go_enter Tryz.func93,Tryz.ntmps93
   go_wp2_with fail
   go_ret
   exact ⟨rfl,bel2 _ _ _⟩
  ·rw [dc_t ⟨h1,h2⟩] at hX
   subst hX
   go_enter Tryz.func93,Tryz.ntmps93
   go_wp2_with fail
   go_ret
   exact ⟨rfl,bel2 _ _ _⟩
theorem im_line_t (a:Fv) (hk : 40≤a.k∧a.k≤42) (pn:Option Addr) (p cn:Nat) (pk:Option Addr) (q ck:Nat) (pn2:Option Addr) (p2 cn2:Nat) (pk2:Option Addr) (q2 ck2:Nat) (w:World):Calls Tryz.prog 93 #[fmv a (.slice pn p cn) (.slice pk q ck),.iface 169 (Fo.fmv (fa a) (.slice pn2 p2 cn2) (.slice pk2 q2 ck2))] w fun e w'=>e = .returned (.bool (dc (lnk a)))∧Below w.heap.size w w':=by
 have ht:=ta_ns (.agg #[.int .i64 a.k,.int .i64 a.f,.int .i64 a.t,.int .i64 a.l,.int .i64 a.o,.int .i64 a.m,.string a.x,.slice pn2 p2 cn2,.slice pk2 q2 ck2])
 obtain ⟨R,hR⟩:∃ R,R=dc (lnk a):=⟨_,rfl⟩
 have hX:R=dc (0≤a.l∧a.l≤100000):=hR.trans (dc_iff (by unfold lnk;omega))
 rw [← hR]
 clear hR hk
 unfold fmv Fo.fmv fa
 obtain ⟨k,f,t,l,o,m,g,x⟩:=a
 dsimp only at hX ht ⊢
 have hst:∀ (a:Addr) (n:Nat) (m:Mode) (w:World),(store a (.float .f64 n) m).run Tryz.prog w=stored Tryz.prog w a (.float .f64 n) m:=fun a n m w=>run_store _ _ _ _ _ rfl
 rcases Int.lt_or_le l 0 with h1 | h1
 ·rw [dc_f (by omega)] at hX
  subst hX
  have h1':¬ 0≤l:=by omega
  go_enter Tryz.func93,Tryz.ntmps93
  go_wp2_with fail
  go_ret
  exact ⟨rfl,bel2 _ _ _⟩
 ·rcases Int.lt_or_le 100000 l with h2 | h2
  ·rw [dc_f (by omega)] at hX
   subst hX
   have h2':¬ l≤100000:=by omega
   go_enter Tryz.func93,Tryz.ntmps93
   go_wp2_with fail
   go_ret
   exact ⟨rfl,bel2 _ _ _⟩
  ·rw [dc_t ⟨h1,h2⟩] at hX
   subst hX
   go_enter Tryz.func93,Tryz.ntmps93
   go_wp2_with fail
   go_ret
   exact ⟨rfl,bel2 _ _ _⟩
def rwg (r:Rw):Rw:=if r.t=3 then { r with t:=0 } else r
theorem st_step {w W : World} {ty : TypeId} {cs : Array Value} (h : W.heap[w.heap.size]? = some (.cells cs ty (0, 0))) (hb : Below w.heap.size w W) (k : Nat) (x : Value) {cs' : Array Value} (hc : cs.setIfInBounds k x = cs') :
  ∃ V,W.setCell ⟨w.heap.size,k,none⟩ x=V∧V.heap[w.heap.size]? = some (.cells cs' ty (0,0))∧Below w.heap.size w V:=by
 refine ⟨_,rfl,?_,?_⟩
 ·rw [setCell_eq_setRow _ _ _ _ _ _ _ h,setRow_heap _ _ _ _ _ _ h,hc]
 ·exact ⟨hb.os,hb.tape,hb.output,by simpa using hb.size,fun i hi=>(Below.heap_setCell W _ _ _ (by show i ≠ w.heap.size;omega)).trans (hb.block i hi)⟩
theorem im_grown {TT FR FK : Nat} (mth : Mth TT FR FK) (eR : ∀ args w, (callFunc FR args).run Tryz.prog w = .ok (.enter FR args) w) (v : Value) (r : Rw) (hr : ∀ W, Calls Tryz.prog FR #[v] W fun e w' => e = .returned (rwv r) ∧ Below W.heap.size W w') (w : World) :
  Calls Tryz.prog 90 #[.iface TT v] w fun e w'=>e = .returned (rwv (rwg r))∧Below w.heap.size w w':=by
 have mt:=mth.row
 unfold rwv rwg
 unfold rwv at hr
 obtain ⟨kl,kh,nl,nh,ol,oh,ml,mh,tt⟩:=r
 dsimp only at hr ⊢
 have HR:Hid (∀ W,Calls Tryz.prog FR #[v] W fun e w'=>e = .returned (.agg #[.int .i64 kl,.int .i64 kh,.int .i64 nl,.int .i64 nh,.int .i64 ol,.int .i64 oh,.int .i64 ml,.int .i64 mh,.int .i64 tt])∧Below W.heap.size W w'):=hr
 clear hr
 by_cases ht:tt=3
 ·subst ht
  rw [if_pos rfl]
  go_enter Tryz.func90,Tryz.ntmps90
  go_wp2_with fail
  refine ((show ∀ W,Calls Tryz.prog FR #[v] W fun e w'=>e = .returned (.agg #[.int .i64 kl,.int .i64 kh,.int .i64 nl,.int .i64 nh,.int .i64 ol,.int .i64 oh,.int .i64 ml,.int .i64 mh,.int .i64 3])∧Below W.heap.size W w' from HR) _).mono ?_
  rintro e w1 ⟨rfl,hb⟩
  have h0:w1.heap[w.heap.size]? = some (.cells #[.int .i64 0,.int .i64 0,.int .i64 0,.int .i64 0,.int .i64 0,.int .i64 0,.int .i64 0,.int .i64 0,.int .i64 0] 140 (0,0)):=by
   rw [hb.block _ (by simp)]
   exact World.alloc_heap_new w _
  have b0:Below w.heap.size w w1:=below_new hb
  have c0:w1.cell? ⟨w.heap.size,0,none⟩=some (.int .i64 0):=by simp [World.cell?,h0]
  have f0:w1.frozen? ⟨w.heap.size,0,none⟩=false:=by simp [World.frozen?,h0]
  have s0:w.heap.size < w1.heap.size:=(Array.getElem?_eq_some_iff.1 h0).1
  obtain ⟨V1,e0,h1,b1⟩:=st_step h0 b0 0 (.int .i64 kl) (cs':=#[.int .i64 kl,.int .i64 0,.int .i64 0,.int .i64 0,.int .i64 0,.int .i64 0,.int .i64 0,.int .i64 0,.int .i64 0]) rfl
  have c1:V1.cell? ⟨w.heap.size,1,none⟩=some (.int .i64 0):=by simp [World.cell?,h1]
  have f1:V1.frozen? ⟨w.heap.size,1,none⟩=false:=by simp [World.frozen?,h1]
  have s1:w.heap.size < V1.heap.size:=(Array.getElem?_eq_some_iff.1 h1).1
  obtain ⟨V2,e1,h2,b2⟩:=st_step h1 b1 1 (.int .i64 kh) (cs':=#[.int .i64 kl,.int .i64 kh,.int .i64 0,.int .i64 0,.int .i64 0,.int .i64 0,.int .i64 0,.int .i64 0,.int .i64 0]) rfl
  have c2:V2.cell? ⟨w.heap.size,2,none⟩=some (.int .i64 0):=by simp [World.cell?,h2]
  have f2:V2.frozen? ⟨w.heap.size,2,none⟩=false:=by simp [World.frozen?,h2]
  have s2:w.heap.size < V2.heap.size:=(Array.getElem?_eq_some_iff.1 h2).1
  obtain ⟨V3,e2,h3,b3⟩:=st_step h2 b2 2 (.int .i64 nl) (cs':=#[.int .i64 kl,.int .i64 kh,.int .i64 nl,.int .i64 0,.int .i64 0,.int .i64 0,.int .i64 0,.int .i64 0,.int .i64 0]) rfl
  have c3:V3.cell? ⟨w.heap.size,3,none⟩=some (.int .i64 0):=by simp [World.cell?,h3]
  have f3:V3.frozen? ⟨w.heap.size,3,none⟩=false:=by simp [World.frozen?,h3]
  have s3:w.heap.size < V3.heap.size:=(Array.getElem?_eq_some_iff.1 h3).1
  obtain ⟨V4,e3,h4,b4⟩:=st_step h3 b3 3 (.int .i64 nh) (cs':=#[.int .i64 kl,.int .i64 kh,.int .i64 nl,.int .i64 nh,.int .i64 0,.int .i64 0,.int .i64 0,.int .i64 0,.int .i64 0]) rfl
  have c4:V4.cell? ⟨w.heap.size,4,none⟩=some (.int .i64 0):=by simp [World.cell?,h4]
  have f4:V4.frozen? ⟨w.heap.size,4,none⟩=false:=by simp [World.frozen?,h4]
  have s4:w.heap.size < V4.heap.size:=(Array.getElem?_eq_some_iff.1 h4).1
  obtain ⟨V5,e4,h5,b5⟩:=st_step h4 b4 4 (.int .i64 ol) (cs':=#[.int .i64 kl,.int .i64 kh,.int .i64 nl,.int .i64 nh,.int .i64 ol,.int .i64 0,.int .i64 0,.int .i64 0,.int .i64 0]) rfl
  have c5:V5.cell? ⟨w.heap.size,5,none⟩=some (.int .i64 0):=by simp [World.cell?,h5]
  have f5:V5.frozen? ⟨w.heap.size,5,none⟩=false:=by simp [World.frozen?,h5]
  have s5:w.heap.size < V5.heap.size:=(Array.getElem?_eq_some_iff.1 h5).1
  obtain ⟨V6,e5,h6,b6⟩:=st_step h5 b5 5 (.int .i64 oh) (cs':=#[.int .i64 kl,.int .i64 kh,.int .i64 nl,.int .i64 nh,.int .i64 ol,.int .i64 oh,.int .i64 0,.int .i64 0,.int .i64 0]) rfl
  have c6:V6.cell? ⟨w.heap.size,6,none⟩=some (.int .i64 0):=by simp [World.cell?,h6]
  have f6:V6.frozen? ⟨w.heap.size,6,none⟩=false:=by simp [World.frozen?,h6]
  have s6:w.heap.size < V6.heap.size:=(Array.getElem?_eq_some_iff.1 h6).1
  obtain ⟨V7,e6,h7,b7⟩:=st_step h6 b6 6 (.int .i64 ml) (cs':=#[.int .i64 kl,.int .i64 kh,.int .i64 nl,.int .i64 nh,.int .i64 ol,.int .i64 oh,.int .i64 ml,.int .i64 0,.int .i64 0]) rfl
  have c7:V7.cell? ⟨w.heap.size,7,none⟩=some (.int .i64 0):=by simp [World.cell?,h7]
  have f7:V7.frozen? ⟨w.heap.size,7,none⟩=false:=by simp [World.frozen?,h7]
  have s7:w.heap.size < V7.heap.size:=(Array.getElem?_eq_some_iff.1 h7).1
  obtain ⟨V8,e7,h8,b8⟩:=st_step h7 b7 7 (.int .i64 mh) (cs':=#[.int .i64 kl,.int .i64 kh,.int .i64 nl,.int .i64 nh,.int .i64 ol,.int .i64 oh,.int .i64 ml,.int .i64 mh,.int .i64 0]) rfl
  have c8:V8.cell? ⟨w.heap.size,8,none⟩=some (.int .i64 0):=by simp [World.cell?,h8]
  have f8:V8.frozen? ⟨w.heap.size,8,none⟩=false:=by simp [World.frozen?,h8]
  have s8:w.heap.size < V8.heap.size:=(Array.getElem?_eq_some_iff.1 h8).1
  obtain ⟨V9,e8,h9,b9⟩:=st_step h8 b8 8 (.int .i64 0) (cs':=#[.int .i64 kl,.int .i64 kh,.int .i64 nl,.int .i64 nh,.int .i64 ol,.int .i64 oh,.int .i64 ml,.int .i64 mh,.int .i64 0]) rfl
  have g0:V9.cell? ⟨w.heap.size,0,none⟩=some (.int .i64 kl):=by simp [World.cell?,h9]
  have g1:V9.cell? ⟨w.heap.size,1,none⟩=some (.int .i64 kh):=by simp [World.cell?,h9]
  have g2:V9.cell? ⟨w.heap.size,2,none⟩=some (.int .i64 nl):=by simp [World.cell?,h9]
  have g3:V9.cell? ⟨w.heap.size,3,none⟩=some (.int .i64 nh):=by simp [World.cell?,h9]
  have g4:V9.cell? ⟨w.heap.size,4,none⟩=some (.int .i64 ol):=by simp [World.cell?,h9]
  have g5:V9.cell? ⟨w.heap.size,5,none⟩=some (.int .i64 oh):=by simp [World.cell?,h9]
  have g6:V9.cell? ⟨w.heap.size,6,none⟩=some (.int .i64 ml):=by simp [World.cell?,h9]
  have g7:V9.cell? ⟨w.heap.size,7,none⟩=some (.int .i64 mh):=by simp [World.cell?,h9]
  have g8:V9.cell? ⟨w.heap.size,8,none⟩=some (.int .i64 0):=by simp [World.cell?,h9]
  have s9:w.heap.size < V9.heap.size:=(Array.getElem?_eq_some_iff.1 h9).1
  have HB:Hid (∀ o,Below w.heap.size w (V9.alloc o)):=(fun o=>b9.alloc (by omega) o:∀ o,_)
  clear HR mt hb h0 b0 h1 b1 h2 b2 h3 b3 h4 b4 h5 b5 h6 b6 h7 b7 h8 b8 h9 b9
  go_wp2_with fail
  refine bodyPost_ret (by simp [results,Tryz.results90,go_sem,g0,g1,g2,g3,g4,g5,g6,g7,g8,s9];try rfl) rfl ?_
  exact ⟨rfl,(show ∀ o,Below w.heap.size w (V9.alloc o) from HB) _⟩
 ·rw [if_neg ht]
  have ht':(tt == 3)=false:=bne ht
  clear ht
  go_enter Tryz.func90,Tryz.ntmps90
  go_wp2_with fail
  refine ((show ∀ W,Calls Tryz.prog FR #[v] W fun e w'=>e = .returned (.agg #[.int .i64 kl,.int .i64 kh,.int .i64 nl,.int .i64 nh,.int .i64 ol,.int .i64 oh,.int .i64 ml,.int .i64 mh,.int .i64 tt])∧Below W.heap.size W w' from HR) _).mono ?_
  rintro e w1 ⟨rfl,hb⟩
  have h0:w1.heap[w.heap.size]? = some (.cells #[.int .i64 0,.int .i64 0,.int .i64 0,.int .i64 0,.int .i64 0,.int .i64 0,.int .i64 0,.int .i64 0,.int .i64 0] 140 (0,0)):=by
   rw [hb.block _ (by simp)]
   exact World.alloc_heap_new w _
  have b0:Below w.heap.size w w1:=below_new hb
  have c0:w1.cell? ⟨w.heap.size,0,none⟩=some (.int .i64 0):=by simp [World.cell?,h0]
  have f0:w1.frozen? ⟨w.heap.size,0,none⟩=false:=by simp [World.frozen?,h0]
  have s0:w.heap.size < w1.heap.size:=(Array.getElem?_eq_some_iff.1 h0).1
  obtain ⟨V1,e0,h1,b1⟩:=st_step h0 b0 0 (.int .i64 kl) (cs':=#[.int .i64 kl,.int .i64 0,.int .i64 0,.int .i64 0,.int .i64 0,.int .i64 0,.int .i64 0,.int .i64 0,.int .i64 0]) rfl
  have c1:V1.cell? ⟨w.heap.size,1,none⟩=some (.int .i64 0):=by simp [World.cell?,h1]
  have f1:V1.frozen? ⟨w.heap.size,1,none⟩=false:=by simp [World.frozen?,h1]
  have s1:w.heap.size < V1.heap.size:=(Array.getElem?_eq_some_iff.1 h1).1
  obtain ⟨V2,e1,h2,b2⟩:=st_step h1 b1 1 (.int .i64 kh) (cs':=#[.int .i64 kl,.int .i64 kh,.int .i64 0,.int .i64 0,.int .i64 0,.int .i64 0,.int .i64 0,.int .i64 0,.int .i64 0]) rfl
  have c2:V2.cell? ⟨w.heap.size,2,none⟩=some (.int .i64 0):=by simp [World.cell?,h2]
  have f2:V2.frozen? ⟨w.heap.size,2,none⟩=false:=by simp [World.frozen?,h2]
  have s2:w.heap.size < V2.heap.size:=(Array.getElem?_eq_some_iff.1 h2).1
  obtain ⟨V3,e2,h3,b3⟩:=st_step h2 b2 2 (.int .i64 nl) (cs':=#[.int .i64 kl,.int .i64 kh,.int .i64 nl,.int .i64 0,.int .i64 0,.int .i64 0,.int .i64 0,.int .i64 0,.int .i64 0]) rfl
  have c3:V3.cell? ⟨w.heap.size,3,none⟩=some (.int .i64 0):=by simp [World.cell?,h3]
  have f3:V3.frozen? ⟨w.heap.size,3,none⟩=false:=by simp [World.frozen?,h3]
  have s3:w.heap.size < V3.heap.size:=(Array.getElem?_eq_some_iff.1 h3).1
  obtain ⟨V4,e3,h4,b4⟩:=st_step h3 b3 3 (.int .i64 nh) (cs':=#[.int .i64 kl,.int .i64 kh,.int .i64 nl,.int .i64 nh,.int .i64 0,.int .i64 0,.int .i64 0,.int .i64 0,.int .i64 0]) rfl
  have c4:V4.cell? ⟨w.heap.size,4,none⟩=some (.int .i64 0):=by simp [World.cell?,h4]
  have f4:V4.frozen? ⟨w.heap.size,4,none⟩=false:=by simp [World.frozen?,h4]
  have s4:w.heap.size < V4.heap.size:=(Array.getElem?_eq_some_iff.1 h4).1
  obtain ⟨V5,e4,h5,b5⟩:=st_step h4 b4 4 (.int .i64 ol) (cs':=#[.int .i64 kl,.int .i64 kh,.int .i64 nl,.int .i64 nh,.int .i64 ol,.int .i64 0,.int .i64 0,.int .i64 0,.int .i64 0]) rfl
  have c5:V5.cell? ⟨w.heap.size,5,none⟩=some (.int .i64 0):=by simp [World.cell?,h5]
  have f5:V5.frozen? ⟨w.heap.size,5,none⟩=false:=by simp [World.frozen?,h5]
  have s5:w.heap.size < V5.heap.size:=(Array.getElem?_eq_some_iff.1 h5).1
  obtain ⟨V6,e5,h6,b6⟩:=st_step h5 b5 5 (.int .i64 oh) (cs':=#[.int .i64 kl,.int .i64 kh,.int .i64 nl,.int .i64 nh,.int .i64 ol,.int .i64 oh,.int .i64 0,.int .i64 0,.int .i64 0]) rfl
  have c6:V6.cell? ⟨w.heap.size,6,none⟩=some (.int .i64 0):=by simp [World.cell?,h6]
  have f6:V6.frozen? ⟨w.heap.size,6,none⟩=false:=by simp [World.frozen?,h6]
  have s6:w.heap.size < V6.heap.size:=(Array.getElem?_eq_some_iff.1 h6).1
  obtain ⟨V7,e6,h7,b7⟩:=st_step h6 b6 6 (.int .i64 ml) (cs':=#[.int .i64 kl,.int .i64 kh,.int .i64 nl,.int .i64 nh,.int .i64 ol,.int .i64 oh,.int .i64 ml,.int .i64 0,.int .i64 0]) rfl
  have c7:V7.cell? ⟨w.heap.size,7,none⟩=some (.int .i64 0):=by simp [World.cell?,h7]
  have f7:V7.frozen? ⟨w.heap.size,7,none⟩=false:=by simp [World.frozen?,h7]
  have s7:w.heap.size < V7.heap.size:=(Array.getElem?_eq_some_iff.1 h7).1
  obtain ⟨V8,e7,h8,b8⟩:=st_step h7 b7 7 (.int .i64 mh) (cs':=#[.int .i64 kl,.int .i64 kh,.int .i64 nl,.int .i64 nh,.int .i64 ol,.int .i64 oh,.int .i64 ml,.int .i64 mh,.int .i64 0]) rfl
  have c8:V8.cell? ⟨w.heap.size,8,none⟩=some (.int .i64 0):=by simp [World.cell?,h8]
  have f8:V8.frozen? ⟨w.heap.size,8,none⟩=false:=by simp [World.frozen?,h8]
  have s8:w.heap.size < V8.heap.size:=(Array.getElem?_eq_some_iff.1 h8).1
  obtain ⟨V9,e8,h9,b9⟩:=st_step h8 b8 8 (.int .i64 tt) (cs':=#[.int .i64 kl,.int .i64 kh,.int .i64 nl,.int .i64 nh,.int .i64 ol,.int .i64 oh,.int .i64 ml,.int .i64 mh,.int .i64 tt]) rfl
  have g0:V9.cell? ⟨w.heap.size,0,none⟩=some (.int .i64 kl):=by simp [World.cell?,h9]
  have g1:V9.cell? ⟨w.heap.size,1,none⟩=some (.int .i64 kh):=by simp [World.cell?,h9]
  have g2:V9.cell? ⟨w.heap.size,2,none⟩=some (.int .i64 nl):=by simp [World.cell?,h9]
  have g3:V9.cell? ⟨w.heap.size,3,none⟩=some (.int .i64 nh):=by simp [World.cell?,h9]
  have g4:V9.cell? ⟨w.heap.size,4,none⟩=some (.int .i64 ol):=by simp [World.cell?,h9]
  have g5:V9.cell? ⟨w.heap.size,5,none⟩=some (.int .i64 oh):=by simp [World.cell?,h9]
  have g6:V9.cell? ⟨w.heap.size,6,none⟩=some (.int .i64 ml):=by simp [World.cell?,h9]
  have g7:V9.cell? ⟨w.heap.size,7,none⟩=some (.int .i64 mh):=by simp [World.cell?,h9]
  have g8:V9.cell? ⟨w.heap.size,8,none⟩=some (.int .i64 tt):=by simp [World.cell?,h9]
  have s9:w.heap.size < V9.heap.size:=(Array.getElem?_eq_some_iff.1 h9).1
  have HB:Hid (∀ o,Below w.heap.size w (V9.alloc o)):=(fun o=>b9.alloc (by omega) o:∀ o,_)
  clear HR mt hb h0 b0 h1 b1 h2 b2 h3 b3 h4 b4 h5 b5 h6 b6 h7 b7 h8 b8 h9 b9
  go_wp2_with fail
  refine bodyPost_ret (by simp [results,Tryz.results90,go_sem,g0,g1,g2,g3,g4,g5,g6,g7,g8,s9];try rfl) rfl ?_
  exact ⟨rfl,(show ∀ o,Below w.heap.size w (V9.alloc o) from HB) _⟩
theorem im_ends {v : Value} {n : Nat} {F : Nat → Gv} (w : World) (hf : RowF w v n F) (hn : n ≤ 1048576) :
  Calls Tryz.prog 61 #[v] w fun e w'=>e = .returned (.bool (dc (0 < n∧n≤3000∧(F (n - 1)).a.k=1)))∧Kz w w':=by
 obtain ⟨pf,cf,rfl,hf2⟩:=hf
 have hnI:(n:Int)≤1048576:=by omega
 rcases Nat.eq_zero_or_pos n with h0 | h0
 ·subst h0
  rw [dc_f (by omega)]
  clear hf2
  go_enter Tryz.func61,Tryz.ntmps61
  go_wp2_with fail
  go_ret
  exact ⟨rfl,.refl _⟩
 ·have h0' : 0 < (n:Int):=by omega
  rcases Nat.lt_or_ge 3000 n with h1 | h1
  ·rw [dc_f (by omega)]
   have h1':¬ (n:Int)≤3000:=by omega
   clear hf2
   go_enter Tryz.func61,Tryz.ntmps61
   go_wp2_with fail
   go_ret
   exact ⟨rfl,.refl _⟩
  ·obtain ⟨c,rfl,hcc,hrc⟩:=hf2 h0
   have h1':(n:Int)≤3000:=by omega
   obtain ⟨vn,vk,hc,_,_⟩:=hrc (n - 1) (by omega)
   obtain ⟨m,hm⟩:∃ m:Nat,m=n - 1:=⟨_,rfl⟩
   rw [← hm] at hc ⊢
   have hm1:(n:Int) - 1=(m:Int):=by omega
   have hm2:(m:Int) < (n:Int):=by omega
   have d0:=hc.c0
   by_cases hk:(F m).a.k=1
   ·rw [dc_t ⟨h0,h1,hk⟩]
    have hk':=beq1 hk
    clear hf2 hrc hc hm hk
    go_enter Tryz.func61,Tryz.ntmps61
    go_wp2_with fail
    go_ret
    exact ⟨rfl,.refl _⟩
   ·rw [dc_f (fun z=>hk z.2.2)]
    have hk':=bne hk
    clear hf2 hrc hc hm hk
    go_enter Tryz.func61,Tryz.ntmps61
    go_wp2_with fail
    go_ret
    exact ⟨rfl,.refl _⟩
def zfm:Value:=.agg #[.int .i64 0,.int .i64 0,.int .i64 0,.int .i64 0,.int .i64 0,.int .i64 0,.string ⟨#[]⟩,.slice none 0 0,.slice none 0 0]
theorem infoFm:(Tryz.prog.info? 64).map (fun i=>(i.zero,i.size,i.bytes))=some (some zfm,9,112):=by kernel_rfl
def fcs (F:Nat→Gv) (VN VK:Nat→Value):Nat→List Value
 | 0=>[]
 | i+1=>fcs F VN VK i ++ [.int .i64 (F i).a.k,.int .i64 (F i).a.f,.int .i64 (F i).a.t,.int .i64 (F i).a.l,.int .i64 (F i).a.o,.int .i64 (F i).a.m,.string (F i).a.x,VN i,VK i]
theorem fcs_len (F:Nat→Gv) (VN VK:Nat→Value) (i:Nat):(fcs F VN VK i).length=i*9:=by
 induction i with
 | zero=>rfl
 | succ i ih=>simp [fcs,ih];omega
theorem fcs_at (F:Nat→Gv) (VN VK:Nat→Value) (n i r:Nat) (hi:i < n) (hr:r < 9):(fcs F VN VK n)[i*9+r]? = [.int .i64 (F i).a.k,.int .i64 (F i).a.f,.int .i64 (F i).a.t,.int .i64 (F i).a.l,.int .i64 (F i).a.o,.int .i64 (F i).a.m,.string (F i).a.x,VN i,VK i][r]?:=by
 induction n with
 | zero=>omega
 | succ n ih =>
  show (fcs F VN VK n ++ _)[i*9+r]? = _
  rcases Nat.lt_or_ge i n with h | h
  ·rw [List.getElem?_append_left (by rw [fcs_len];omega)];exact ih h
  ·have e:i=n:=by omega
   subst e
   rw [List.getElem?_append_right (by rw [fcs_len];omega),fcs_len]
   congr 1
   omega
structure Fg (w:World) (F:Nat→Gv) (VN VK:Nat→Value) (i:Nat) (v:Value) (W:World):Prop where
 bl:Below w.heap.size w W
 row:W.ownsRow w.heap.size 64 9 v i (fcs F VN VK i)
theorem Fg.shape {w:World} {F:Nat→Gv} {VN VK:Nat→Value} {i:Nat} {v:Value} {W:World} (h:Fg w F VN VK i v W):∃ (ad:Option Addr) (cap:Nat),v = .slice ad i cap:=by
 rcases h.row.2 with ⟨rfl,e⟩ | ⟨g,cap,cur,rfl,_⟩
 ·exact ⟨none,0,by rw [e]⟩
 ·exact ⟨_,cap,rfl⟩
theorem Fg.step {w:World} {F:Nat→Gv} {VN VK:Nat→Value} {i:Nat} {v v':Value} {W W1 w2:World} (h:Fg w F VN VK i v W) (hb:Below W.heap.size W W1) (ho:w2.ownsRow w.heap.size 64 9 v' (i+1) (fcs F VN VK i ++ [.int .i64 (F i).a.k,.int .i64 (F i).a.f,.int .i64 (F i).a.t,.int .i64 (F i).a.l,.int .i64 (F i).a.o,.int .i64 (F i).a.m,.string (F i).a.x,VN i,VK i])) (hg:W1.grownBy w2 v.ownBlock):Fg w F VN VK (i+1) v' w2:=by
 have h1:=h.bl.trans (hb.mono h.bl.size)
 have hs:=hg.size
 have hz:=h1.size
 have hne:∀ k,k < w.heap.size→some k ≠ v.ownBlock:=fun k hk e2=>by have:=(h.row.lt k e2.symm).1;omega
 exact ⟨⟨hg.os.trans h1.os,hg.tape.trans h1.tape,hg.output.trans h1.output,by omega,fun k hk=>(hg.block k (by omega) (hne k hk)).trans (h1.block k hk)⟩,ho⟩
theorem Fg.forms {w:World} {F:Nat→Gv} {VN VK:Nat→Value} {n:Nat} {v:Value} {W:World} (h:Fg w F VN VK n v W) (hr:∀ i,i < n→RowV w (VN i) (F i).p (fun j=>.string ((F i).A j))∧RowV w (VK i) (F i).q (fun j=>.int .i64 ((F i).K j))):Fo.RowF W v n (frm F):=by
 rcases h.row.2 with ⟨rfl,e⟩ | ⟨g,cap,cur,rfl,hg,hcur,hc1,_,hsz,hx⟩
 ·exact ⟨none,0,by rw [e],fun h=>by omega⟩
 ·refine ⟨_,cap,rfl,fun _=>⟨_,rfl,hc1,fun i hi=>?_⟩⟩
  have hc:∀ r,r < 9→W.cell? ⟨g,i*9+r,none⟩ = [.int .i64 (F i).a.k,.int .i64 (F i).a.f,.int .i64 (F i).a.t,.int .i64 (F i).a.l,.int .i64 (F i).a.o,.int .i64 (F i).a.m,.string (F i).a.x,VN i,VK i][r]?:=fun r hr2=>by
   rw [← fcs_at F VN VK n i r hi hr2,← hx,List.getElem?_take_of_lt (by omega)]
   simp [World.cell?,hcur]
  have ea:(⟨g,0,none⟩:Addr).add (i*9)=⟨g,i*9,none⟩:=by unfold Addr.add;split <;> simp_all
  rw [ea]
  exact ⟨VN i,VK i,⟨hc 0 (by omega),hc 1 (by omega),hc 2 (by omega),hc 3 (by omega),hc 4 (by omega),hc 5 (by omega),hc 6 (by omega),hc 7 (by omega),hc 8 (by omega)⟩,(hr i hi).1.below h.bl,(hr i hi).2.below h.bl⟩
theorem im_forms {v : Value} {n : Nat} {F : Nat → Gv} (w : World) (hf : RowF w v n F) (hn : n ≤ 3000) :
  Calls Tryz.prog 62 #[v] w fun e w'=>∃ u,e = .returned u∧Fo.RowF w' u n (frm F)∧Kz w w':=by
 obtain ⟨pf,cf,rfl,hf2⟩:=hf
 have hnI:(n:Int)≤3000:=by omega
 obtain ⟨V,hV⟩:∃ V:Nat→Value × Value,∀ i,i < n→∃ a:Addr,pf=some a∧n≤cf∧Cel9 w (a.add (i*10)) (F i).a (V i).1 (V i).2∧RowV w (V i).1 (F i).p (fun j=>.string ((F i).A j))∧RowV w (V i).2 (F i).q (fun j=>.int .i64 ((F i).K j)):=by
  refine (Classical.skolem (p:=fun i (y:Value × Value)=>i < n→∃ a:Addr,pf=some a∧n≤cf∧Cel9 w (a.add (i*10)) (F i).a y.1 y.2∧RowV w y.1 (F i).p (fun j=>.string ((F i).A j))∧RowV w y.2 (F i).q (fun j=>.int .i64 ((F i).K j)))).1 fun i=>?_
  rcases Nat.lt_or_ge i n with hi | hi
  ·obtain ⟨a,h1,h2,h3⟩:=hf2 (by omega)
   obtain ⟨vn,vk,h4,h5,h6⟩:=h3 i hi
   exact ⟨(vn,vk),fun _=>⟨a,h1,h2,h4,h5,h6⟩⟩
  ·exact ⟨(.bool false,.bool false),fun h=>by omega⟩
 obtain ⟨VN,hVN⟩:∃ VN:Nat→Value,∀ i,VN i=(V i).1:=⟨_,fun _=>rfl⟩
 obtain ⟨VK,hVK⟩:∃ VK:Nat→Value,∀ i,VK i=(V i).2:=⟨_,fun _=>rfl⟩
 have HV:Hid (∀ i,i < n→∃ a:Addr,pf=some a∧n≤cf∧Cel9 w (a.add (i*10)) (F i).a (VN i) (VK i)∧RowV w (VN i) (F i).p (fun j=>.string ((F i).A j))∧RowV w (VK i) (F i).q (fun j=>.int .i64 ((F i).K j))):=(fun i hi=>by rw [hVN,hVK];exact hV i hi:∀ i,_)
 clear hV hVN hVK hf2
 have hst:∀ (a:Addr) (n:Nat) (m:Mode) (w:World),(store a (.float .f64 n) m).run Tryz.prog w=stored Tryz.prog w a (.float .f64 n) m:=fun a n m w=>run_store _ _ _ _ _ rfl
 obtain ⟨i0,hi0,hz0,hz1,hz2⟩:=info_parts infoFm
 have HI0:Hid (Tryz.prog.info? 64=some i0):=hi0
 clear hi0
 go_enter Tryz.func62,Tryz.ntmps62
 go_wp2_with fail
 go_loopw [3,8] (fun s3 s8 wr=>∃ i:Nat,s8 = .int .i64 (i:Int)∧i≤n∧Hid (Fg w F VN VK i s3 wr)) (fun _ s8 _=>n - (intOf s8).toNat)
 case atStart=>exact ⟨0,rfl,Nat.zero_le _,(⟨Below.refl _ _,World.ownsRow_nil _ _ _ _⟩:Fg w F VN VK 0 _ _)⟩
 case round =>
  obtain ⟨i,rfl,hin,HG⟩:=hrel
  have hg:=(show Fg w F VN VK i u3 wr from HG)
  obtain ⟨ad,cap,rfl⟩:=hg.shape
  clear HG
  rcases Nat.lt_or_ge i n with hi | hi
  case inr =>
   have hiI:¬ (i:Int) < (n:Int):=by omega
   have e:i=n:=by omega
   have hV2:=(show ∀ i,i < n→∃ a:Addr,pf=some a∧n≤cf∧Cel9 w (a.add (i*10)) (F i).a (VN i) (VK i)∧RowV w (VN i) (F i).p (fun j=>.string ((F i).A j))∧RowV w (VK i) (F i).q (fun j=>.int .i64 ((F i).K j)) from HV)
   have HX:Hid (Fo.RowF wr (.slice ad i cap) n (frm F)∧Kz w wr):=by
    subst e
    refine (⟨hg.forms (fun j hj=>?_),Kz.of_below hg.bl⟩:_∧_)
    obtain ⟨_,_,_,_,h5,h6⟩:=hV2 j hj
    exact ⟨h5,h6⟩
   clear hg e HI0 HV hst hV2
   go_wp2_with fail
   go_ret
   exact ⟨_,rfl,HX.1,HX.2⟩
  have hiI:(i:Int) < (n:Int):=by omega
  obtain ⟨c,rfl,hcc,hc9,hrn,hrk⟩:=(show ∀ i,i < n→∃ a:Addr,pf=some a∧n≤cf∧Cel9 w (a.add (i*10)) (F i).a (VN i) (VK i)∧RowV w (VN i) (F i).p (fun j=>.string ((F i).A j))∧RowV w (VK i) (F i).q (fun j=>.int .i64 ((F i).K j)) from HV) i hi
  obtain ⟨pn,cn,en,_⟩:=hrn
  obtain ⟨pk,ck,ek,_⟩:=hrk
  have hc9':=hc9.below hg.bl
  have HSTP:Hid (∀ (o1 o2:Obj) (v':Value) (w2:World),w2.ownsRow w.heap.size 64 9 v' (i+1) (fcs F VN VK i ++ [.int .i64 (F i).a.k,.int .i64 (F i).a.f,.int .i64 (F i).a.t,.int .i64 (F i).a.l,.int .i64 (F i).a.o,.int .i64 (F i).a.m,.string (F i).a.x,.slice pn (F i).p cn,.slice pk (F i).q ck])→((wr.alloc o1).alloc o2).grownBy w2 (Value.slice ad i cap).ownBlock→Fg w F VN VK (i+1) v' w2):=(fun o1 o2 v' w2 ho hgr=>by
   rw [← en,← ek] at ho
   exact hg.step (bel2 _ _ _) ho hgr:∀ (o1 o2:Obj) (v':Value) (w2:World),_)
  have howna:∀ a b:Obj,((wr.alloc a).alloc b).ownsRow w.heap.size 64 9 (.slice ad i cap) i (fcs F VN VK i):=fun a b=>(hg.row.alloc a).alloc b
  rw [en,ek] at hc9'
  obtain ⟨e0,e1,e2,e3,e4,e5,e6,e7,e8,e9⟩:=hc9'
  have hqc:∀ (o:Obj) (j:Nat) (u:Value),([.int .i64 (F i).a.k,.int .i64 (F i).a.f,.int .i64 (F i).a.t,.int .i64 (F i).a.l,.int .i64 (F i).a.o,.int .i64 (F i).a.m,.string (F i).a.x,.slice pn (F i).p cn,.slice pk (F i).q ck]:List Value)[j]? = some u→((wr.alloc o).alloc (.cells #[.int .i64 (F i).a.k,.int .i64 (F i).a.f,.int .i64 (F i).a.t,.int .i64 (F i).a.l,.int .i64 (F i).a.o,.int .i64 (F i).a.m,.string (F i).a.x,.slice pn (F i).p cn,.slice pk (F i).q ck] 64)).cell? ((⟨wr.heap.size+1,0,none⟩:Addr).add j)=some u:=fun o=>by
   have:=qr_cells (wr.alloc o) #[.int .i64 (F i).a.k,.int .i64 (F i).a.f,.int .i64 (F i).a.t,.int .i64 (F i).a.l,.int .i64 (F i).a.o,.int .i64 (F i).a.m,.string (F i).a.x,.slice pn (F i).p cn,.slice pk (F i).q ck] 64 [.int .i64 (F i).a.k,.int .i64 (F i).a.f,.int .i64 (F i).a.t,.int .i64 (F i).a.l,.int .i64 (F i).a.o,.int .i64 (F i).a.m,.string (F i).a.x,.slice pn (F i).p cn,.slice pk (F i).q ck] rfl
   simpa using this
  have h1c:∀ u ∈ ([.int .i64 (F i).a.k,.int .i64 (F i).a.f,.int .i64 (F i).a.t,.int .i64 (F i).a.l,.int .i64 (F i).a.o,.int .i64 (F i).a.m,.string (F i).a.x,.slice pn (F i).p cn,.slice pk (F i).q ck]:List Value),u.oneCell'=true:=by intro u hu;simp at hu;rcases hu with rfl | rfl | rfl | rfl | rfl | rfl | rfl | rfl | rfl <;> rfl
  have hbs:w.heap.size≤wr.heap.size:=hg.bl.size
  clear hg hc9 en ek HV
  go_wp2_with (at_builtin;refine wpList_append_own _ rfl (.tmp 12) (.tmp 32) 29 rfl w.heap.size 64 i0 zfm 9 112 Tryz.underlying29 HI0 hz0 hz1 hz2 rfl (by decide) _ _ _ rfl (howna _ _) ⟨wr.heap.size+1,0,none⟩ 1 1 [.int .i64 (F i).a.k,.int .i64 (F i).a.f,.int .i64 (F i).a.t,.int .i64 (F i).a.l,.int .i64 (F i).a.o,.int .i64 (F i).a.m,.string (F i).a.x,.slice pn (F i).p cn,.slice pk (F i).q ck] rfl rfl (hqc _) h1c (by unfold maxLen;omega) (by omega) (by simp;omega) ?_;intro v' w2 hown1 hgrow1 _;obtain ⟨g',cap',rfl,_,_⟩:=hown1.form (by omega);have HN:Hid (Fg w F VN VK (i+1) (.slice (some ⟨g',0,none⟩) (i+1) cap') w2):=(show ∀ (o1 o2:Obj) (v':Value) (w2:World),_ from HSTP) _ _ _ _ hown1 hgrow1;clear HSTP hown1 hgrow1 howna hqc h1c e0 e1 e2 e3 e4 e5 e6 e7 e8 e9)
  refine ⟨⟨i+1,by go_num,by omega,HN⟩,?_⟩
  simp only [intOf]
  omega
end Go.Proofs.YtomcmnompajnlaaGreatDoor.Fo.Po
