import Derived.Test.YtamcnmnaadpfoaaFPah
import Derived.Test.YtamcnmnaadpfoaaFZaa
import Derived.Test.YtamcnmnaadpfoaaFHaf
import Derived.Deep.RegionHeldLaw
import Derived.Test.YtamcnmnaadpfoaaFPab
import Derived.Laws.Bits128
import Derived.Laws.DeepNot64
import Derived.Deep.QuietTactic
import Derived.BigQuiet
set_option maxHeartbeats 8000000
namespace Go.Proofs.Ytamcnmnaadpfoaa.Fo
open Go.ChangeShapes Go.WideShapes Go.ChangeAt Go.RowKit
set_option linter.unusedVariables false
set_option maxRecDepth 100000
theorem im_holds {a b n : Int} (w : World) :
  Calls Try.prog 55 #[.agg #[.int .i64 a,.int .i64 b],.int .i64 n] w fun e w'=>e = .returned (.bool (dc (a≤n∧n≤b)))∧Kb 0 w w':=by
 by_cases h:a≤n
 rotate_left
 ·rw [dc_f (fun q=>h q.1)]
  go_enter Try.func55,Try.ntmps55
  go_wp2_with fail
  go_ret
  exact ⟨rfl,kb_alloc _ _ _⟩
 by_cases h2:n≤b
 ·rw [dc_t ⟨h,h2⟩]
  go_enter Try.func55,Try.ntmps55
  go_wp2_with fail
  go_ret
  exact ⟨rfl,kb_alloc _ _ _⟩
 ·rw [dc_f (fun q=>h2 q.2)]
  go_enter Try.func55,Try.ntmps55
  go_wp2_with fail
  go_ret
  exact ⟨rfl,kb_alloc _ _ _⟩
theorem im_stop_x {k f l : Int} {s : ByteArray} (w : World) (hs' : (s.size : Int) ≤ 9223372036854775807) (k1 : ¬ k = 1) (k2 : ¬ k = 2) (k3 : ¬ k = 3) (k4 : ¬ k = 4) :
  Calls Try.prog 58 #[.agg #[.int .i64 k,.int .i64 f,.int .i64 l,.string s]] w fun e w'=>e = .returned (.bool false)∧Kb 0 w w':=by
 have e1:(k == 1)=false:=by simp;omega
 have e2:(k == 2)=false:=by simp;omega
 have e3:(k == 3)=false:=by simp;omega
 have e4:(k == 4)=false:=by simp;omega
 go_enter Try.func58,Try.ntmps58
 go_wp2_with fail
 go_ret
 exact ⟨rfl,(((kb_alloc _ _ _).trans (kb_alloc _ _ _)).trans (kb_alloc _ _ _)).trans (kb_alloc _ _ _)⟩
theorem four_new (w : World) (A B C D : Array Value) (tA tB tC tD : TypeId) (W : World) (h : W = (((w.alloc (.cells A tA)).alloc (.cells B tB)).alloc (.cells C tC)).alloc (.cells D tD)) :
  W.heap[w.heap.size]? = some (.cells A tA (0,0))∧W.heap[w.heap.size+1]? = some (.cells B tB (0,0))∧W.heap[w.heap.size+1+1]? = some (.cells C tC (0,0))∧W.heap[w.heap.size+1+1+1]? = some (.cells D tD (0,0))∧Kb 0 w W:=by
 subst h
 have e1:(w.alloc (.cells A tA)).heap.size=w.heap.size+1:=World.size_alloc _ _
 have e2:((w.alloc (.cells A tA)).alloc (.cells B tB)).heap.size=w.heap.size+1+1:=by rw [World.size_alloc,e1]
 have e3:(((w.alloc (.cells A tA)).alloc (.cells B tB)).alloc (.cells C tC)).heap.size=w.heap.size+1+1+1:=by rw [World.size_alloc,e2]
 refine ⟨?_,?_,?_,?_,(((kb_alloc _ _ _).trans (kb_alloc _ _ _)).trans (kb_alloc _ _ _)).trans (kb_alloc _ _ _)⟩
 ·rw [(kb_alloc 0 _ _).block _ (Nat.zero_le _) (by omega),(kb_alloc 0 _ _).block _ (Nat.zero_le _) (by omega),(kb_alloc 0 _ _).block _ (Nat.zero_le _) (by omega)]
  exact alloc_new _ _ _
 ·rw [(kb_alloc 0 _ _).block _ (Nat.zero_le _) (by omega),(kb_alloc 0 _ _).block _ (Nat.zero_le _) (by omega),← e1]
  exact alloc_new _ _ _
 ·rw [(kb_alloc 0 _ _).block _ (Nat.zero_le _) (by omega),← e2]
  exact alloc_new _ _ _
 ·rw [← e3]
  exact alloc_new _ _ _
theorem im_stop_1 {f l : Int} {s : ByteArray} (w : World) (hs' : (s.size : Int) ≤ 9223372036854775807) :
  Calls Try.prog 58 #[.agg #[.int .i64 1,.int .i64 f,.int .i64 l,.string s]] w fun e w'=>e = .returned (.bool (dc (StP 1 f l s.size)))∧Kb 0 w w':=by
 obtain ⟨w5,hw5⟩:∃ w5,w5=(((w.alloc (.cells #[.int .i64 1,.int .i64 f,.int .i64 l,.string s] 38)).alloc (.cells #[.int .i64 0,.int .i64 299] 93)).alloc (.cells #[.int .i64 1,.int .i64 100000] 93)).alloc (.cells #[.int .i64 0,.int .i64 0] 93):=⟨_,rfl⟩
 obtain ⟨b0,b1,b2,b3,k5⟩:=four_new w _ _ _ _ _ _ _ _ w5 hw5
 have c0:w5.cell? ⟨w.heap.size,1,none⟩=some (.int .i64 f):=cell_of b0 rfl
 have c1:w5.cell? ⟨w.heap.size,2,none⟩=some (.int .i64 l):=cell_of b0 rfl
 have c2:w5.cell? ⟨w.heap.size,3,none⟩=some (.string s):=cell_of b0 rfl
 have d0:w5.cell? ⟨w.heap.size+1,0,none⟩=some (.int .i64 0):=cell_of b1 rfl
 have d1:w5.cell? ⟨w.heap.size+1,1,none⟩=some (.int .i64 299):=cell_of b1 rfl
 have d2:w5.cell? ⟨w.heap.size+1+1,0,none⟩=some (.int .i64 1):=cell_of b2 rfl
 have d3:w5.cell? ⟨w.heap.size+1+1,1,none⟩=some (.int .i64 100000):=cell_of b2 rfl
 have d4:w5.cell? ⟨w.heap.size+1+1+1,0,none⟩=some (.int .i64 0):=cell_of b3 rfl
 have d5:w5.cell? ⟨w.heap.size+1+1+1,1,none⟩=some (.int .i64 0):=cell_of b3 rfl
 have HW:Hid (w5 = _):=hw5
 have HK:Hid (Kb 0 w w5):=k5
 have hiff:StP 1 f l s.size↔(0≤f∧f≤299)∧(1≤l∧l≤100000)∧((0:Int)≤(s.size:Int)∧(s.size:Int)≤0):=by unfold StP;omega
 clear b0 b1 b2 b3 hw5 k5
 have H0:=im_holds (a:=0) (b:=299) (n:=f) w5
 by_cases q0:(0≤f∧f≤299)
 rotate_left
 ·rw [dc_f q0] at H0
  rw [dc_f (fun q=>q0 (hiff.1 q).1)]
  clear hiff q0
  go_enter Try.func58,Try.ntmps58
  go_upto_region 11 with fail
  rw [← (show w5 = _ from HW)]
  go_wp2_with fail
  refine H0.mono ?_
  rintro e w6 ⟨rfl,k6⟩
  have HF:Hid (Kb 0 w w6):=(show Kb 0 w w5 from HK).trans k6
  clear H0 k6 HK
  go_wp2_with fail
  go_ret
  exact ⟨rfl,HF⟩
 rw [dc_t q0] at H0
 have H1:Hid (∀ W,Calls Try.prog 55 #[.agg #[.int .i64 1,.int .i64 100000],.int .i64 l] W fun e w'=>e = .returned (.bool (dc (1≤l∧l≤100000)))∧Kb 0 W w'):=(fun W=>im_holds W:∀ W,_)
 by_cases q1:(1≤l∧l≤100000)
 rotate_left
 ·rw [dc_f q1] at H1
  rw [dc_f (fun q=>q1 (hiff.1 q).2.1)]
  clear hiff q0 q1
  go_enter Try.func58,Try.ntmps58
  go_upto_region 11 with fail
  rw [← (show w5 = _ from HW)]
  go_wp2_with fail
  refine H0.mono ?_
  rintro e w6 ⟨rfl,k6⟩
  have HF:Hid (Kb 0 w w6):=(show Kb 0 w w5 from HK).trans k6
  have c61:=k6.cell c1
  have d62:=k6.cell d2
  have d63:=k6.cell d3
  have H2:=(show ∀ W,_ from H1) w6
  clear H0 H1 k6 HK c0 c1 c2 d0 d1 d2 d3 d4 d5
  go_wp2_with fail
  refine H2.mono ?_
  rintro e w7 ⟨rfl,k7⟩
  have HF7:Hid (Kb 0 w w7):=(show Kb 0 w w6 from HF).trans k7
  clear H2 k7 c61 d62 d63
  go_wp2_with fail
  go_ret
  exact ⟨rfl,HF7⟩
 rw [dc_t q1] at H1
 have H3:Hid (∀ W,Calls Try.prog 55 #[.agg #[.int .i64 0,.int .i64 0],.int .i64 (s.size:Int)] W fun e w'=>e = .returned (.bool (dc (StP 1 f l s.size)))∧Kb 0 W w'):=((fun W=>by have:=im_holds (a:=0) (b:=0) (n:=(s.size:Int)) W;rw [show dc (StP 1 f l s.size)=dc (((0:Int)≤(s.size:Int)∧(s.size:Int)≤0)) from by congr 1;exact propext ⟨fun q=>(hiff.1 q).2.2,fun q=>hiff.2 ⟨q0,q1,q⟩⟩];exact this):∀ W,_)
 generalize dc (StP 1 f l s.size)=ans at H3 ⊢
 clear hiff q0 q1
 go_enter Try.func58,Try.ntmps58
 go_upto_region 11 with fail
 rw [← (show w5 = _ from HW)]
 go_wp2_with fail
 refine H0.mono ?_
 rintro e w6 ⟨rfl,k6⟩
 have HF:Hid (Kb 0 w w6):=(show Kb 0 w w5 from HK).trans k6
 have c61:=k6.cell c1
 have c62:=k6.cell c2
 have d62:=k6.cell d2
 have d63:=k6.cell d3
 have d64:=k6.cell d4
 have d65:=k6.cell d5
 have H2:=(show ∀ W,_ from H1) w6
 clear H0 H1 k6 HK c0 c1 c2 d0 d1 d2 d3 d4 d5
 go_wp2_with fail
 refine H2.mono ?_
 rintro e w7 ⟨rfl,k7⟩
 have HF7:Hid (Kb 0 w w7):=(show Kb 0 w w6 from HF).trans k7
 have c72:=k7.cell c62
 have d74:=k7.cell d64
 have d75:=k7.cell d65
 have H4:=(show ∀ W,_ from H3) w7
 clear H2 k7 c61 c62 d62 d63 d64 d65 H3
 go_wp2_with fail
 refine H4.mono ?_
 rintro e w8 ⟨rfl,k8⟩
 have HF8:Hid (Kb 0 w w8):=(show Kb 0 w w7 from HF7).trans k8
 clear H4 k8 c72 d74 d75
 cases ans
 ·go_wp2_with fail
  go_ret
  exact ⟨rfl,HF8⟩
 ·go_wp2_with fail
  go_ret
  exact ⟨rfl,HF8⟩
theorem im_stop_2 {f l : Int} {s : ByteArray} (w : World) (hs' : (s.size : Int) ≤ 9223372036854775807) :
  Calls Try.prog 58 #[.agg #[.int .i64 2,.int .i64 f,.int .i64 l,.string s]] w fun e w'=>e = .returned (.bool (dc (StP 2 f l s.size)))∧Kb 0 w w':=by
 obtain ⟨w5,hw5⟩:∃ w5,w5=(((w.alloc (.cells #[.int .i64 2,.int .i64 f,.int .i64 l,.string s] 38)).alloc (.cells #[.int .i64 0,.int .i64 299] 93)).alloc (.cells #[.int .i64 0,.int .i64 0] 93)).alloc (.cells #[.int .i64 0,.int .i64 0] 93):=⟨_,rfl⟩
 obtain ⟨b0,b1,b2,b3,k5⟩:=four_new w _ _ _ _ _ _ _ _ w5 hw5
 have c0:w5.cell? ⟨w.heap.size,1,none⟩=some (.int .i64 f):=cell_of b0 rfl
 have c1:w5.cell? ⟨w.heap.size,2,none⟩=some (.int .i64 l):=cell_of b0 rfl
 have c2:w5.cell? ⟨w.heap.size,3,none⟩=some (.string s):=cell_of b0 rfl
 have d0:w5.cell? ⟨w.heap.size+1,0,none⟩=some (.int .i64 0):=cell_of b1 rfl
 have d1:w5.cell? ⟨w.heap.size+1,1,none⟩=some (.int .i64 299):=cell_of b1 rfl
 have d2:w5.cell? ⟨w.heap.size+1+1,0,none⟩=some (.int .i64 0):=cell_of b2 rfl
 have d3:w5.cell? ⟨w.heap.size+1+1,1,none⟩=some (.int .i64 0):=cell_of b2 rfl
 have d4:w5.cell? ⟨w.heap.size+1+1+1,0,none⟩=some (.int .i64 0):=cell_of b3 rfl
 have d5:w5.cell? ⟨w.heap.size+1+1+1,1,none⟩=some (.int .i64 0):=cell_of b3 rfl
 have HW:Hid (w5 = _):=hw5
 have HK:Hid (Kb 0 w w5):=k5
 have hiff:StP 2 f l s.size↔(0≤f∧f≤299)∧(0≤l∧l≤0)∧((0:Int)≤(s.size:Int)∧(s.size:Int)≤0):=by unfold StP;omega
 clear b0 b1 b2 b3 hw5 k5
 have H0:=im_holds (a:=0) (b:=299) (n:=f) w5
 by_cases q0:(0≤f∧f≤299)
 rotate_left
 ·rw [dc_f q0] at H0
  rw [dc_f (fun q=>q0 (hiff.1 q).1)]
  clear hiff q0
  go_enter Try.func58,Try.ntmps58
  go_upto_region 11 with fail
  rw [← (show w5 = _ from HW)]
  go_wp2_with fail
  refine H0.mono ?_
  rintro e w6 ⟨rfl,k6⟩
  have HF:Hid (Kb 0 w w6):=(show Kb 0 w w5 from HK).trans k6
  clear H0 k6 HK
  go_wp2_with fail
  go_ret
  exact ⟨rfl,HF⟩
 rw [dc_t q0] at H0
 have H1:Hid (∀ W,Calls Try.prog 55 #[.agg #[.int .i64 0,.int .i64 0],.int .i64 l] W fun e w'=>e = .returned (.bool (dc (0≤l∧l≤0)))∧Kb 0 W w'):=(fun W=>im_holds W:∀ W,_)
 by_cases q1:(0≤l∧l≤0)
 rotate_left
 ·rw [dc_f q1] at H1
  rw [dc_f (fun q=>q1 (hiff.1 q).2.1)]
  clear hiff q0 q1
  go_enter Try.func58,Try.ntmps58
  go_upto_region 11 with fail
  rw [← (show w5 = _ from HW)]
  go_wp2_with fail
  refine H0.mono ?_
  rintro e w6 ⟨rfl,k6⟩
  have HF:Hid (Kb 0 w w6):=(show Kb 0 w w5 from HK).trans k6
  have c61:=k6.cell c1
  have d62:=k6.cell d2
  have d63:=k6.cell d3
  have H2:=(show ∀ W,_ from H1) w6
  clear H0 H1 k6 HK c0 c1 c2 d0 d1 d2 d3 d4 d5
  go_wp2_with fail
  refine H2.mono ?_
  rintro e w7 ⟨rfl,k7⟩
  have HF7:Hid (Kb 0 w w7):=(show Kb 0 w w6 from HF).trans k7
  clear H2 k7 c61 d62 d63
  go_wp2_with fail
  go_ret
  exact ⟨rfl,HF7⟩
 rw [dc_t q1] at H1
 have H3:Hid (∀ W,Calls Try.prog 55 #[.agg #[.int .i64 0,.int .i64 0],.int .i64 (s.size:Int)] W fun e w'=>e = .returned (.bool (dc (StP 2 f l s.size)))∧Kb 0 W w'):=((fun W=>by have:=im_holds (a:=0) (b:=0) (n:=(s.size:Int)) W;rw [show dc (StP 2 f l s.size)=dc (((0:Int)≤(s.size:Int)∧(s.size:Int)≤0)) from by congr 1;exact propext ⟨fun q=>(hiff.1 q).2.2,fun q=>hiff.2 ⟨q0,q1,q⟩⟩];exact this):∀ W,_)
 generalize dc (StP 2 f l s.size)=ans at H3 ⊢
 clear hiff q0 q1
 go_enter Try.func58,Try.ntmps58
 go_upto_region 11 with fail
 rw [← (show w5 = _ from HW)]
 go_wp2_with fail
 refine H0.mono ?_
 rintro e w6 ⟨rfl,k6⟩
 have HF:Hid (Kb 0 w w6):=(show Kb 0 w w5 from HK).trans k6
 have c61:=k6.cell c1
 have c62:=k6.cell c2
 have d62:=k6.cell d2
 have d63:=k6.cell d3
 have d64:=k6.cell d4
 have d65:=k6.cell d5
 have H2:=(show ∀ W,_ from H1) w6
 clear H0 H1 k6 HK c0 c1 c2 d0 d1 d2 d3 d4 d5
 go_wp2_with fail
 refine H2.mono ?_
 rintro e w7 ⟨rfl,k7⟩
 have HF7:Hid (Kb 0 w w7):=(show Kb 0 w w6 from HF).trans k7
 have c72:=k7.cell c62
 have d74:=k7.cell d64
 have d75:=k7.cell d65
 have H4:=(show ∀ W,_ from H3) w7
 clear H2 k7 c61 c62 d62 d63 d64 d65 H3
 go_wp2_with fail
 refine H4.mono ?_
 rintro e w8 ⟨rfl,k8⟩
 have HF8:Hid (Kb 0 w w8):=(show Kb 0 w w7 from HF7).trans k8
 clear H4 k8 c72 d74 d75
 cases ans
 ·go_wp2_with fail
  go_ret
  exact ⟨rfl,HF8⟩
 ·go_wp2_with fail
  go_ret
  exact ⟨rfl,HF8⟩
theorem im_stop_3 {f l : Int} {s : ByteArray} (w : World) (hs' : (s.size : Int) ≤ 9223372036854775807) :
  Calls Try.prog 58 #[.agg #[.int .i64 3,.int .i64 f,.int .i64 l,.string s]] w fun e w'=>e = .returned (.bool (dc (StP 3 f l s.size)))∧Kb 0 w w':=by
 obtain ⟨w5,hw5⟩:∃ w5,w5=(((w.alloc (.cells #[.int .i64 3,.int .i64 f,.int .i64 l,.string s] 38)).alloc (.cells #[.int .i64 0,.int .i64 299] 93)).alloc (.cells #[.int .i64 0,.int .i64 0] 93)).alloc (.cells #[.int .i64 1,.int .i64 40] 93):=⟨_,rfl⟩
 obtain ⟨b0,b1,b2,b3,k5⟩:=four_new w _ _ _ _ _ _ _ _ w5 hw5
 have c0:w5.cell? ⟨w.heap.size,1,none⟩=some (.int .i64 f):=cell_of b0 rfl
 have c1:w5.cell? ⟨w.heap.size,2,none⟩=some (.int .i64 l):=cell_of b0 rfl
 have c2:w5.cell? ⟨w.heap.size,3,none⟩=some (.string s):=cell_of b0 rfl
 have d0:w5.cell? ⟨w.heap.size+1,0,none⟩=some (.int .i64 0):=cell_of b1 rfl
 have d1:w5.cell? ⟨w.heap.size+1,1,none⟩=some (.int .i64 299):=cell_of b1 rfl
 have d2:w5.cell? ⟨w.heap.size+1+1,0,none⟩=some (.int .i64 0):=cell_of b2 rfl
 have d3:w5.cell? ⟨w.heap.size+1+1,1,none⟩=some (.int .i64 0):=cell_of b2 rfl
 have d4:w5.cell? ⟨w.heap.size+1+1+1,0,none⟩=some (.int .i64 1):=cell_of b3 rfl
 have d5:w5.cell? ⟨w.heap.size+1+1+1,1,none⟩=some (.int .i64 40):=cell_of b3 rfl
 have HW:Hid (w5 = _):=hw5
 have HK:Hid (Kb 0 w w5):=k5
 have hiff:StP 3 f l s.size↔(0≤f∧f≤299)∧(0≤l∧l≤0)∧((1:Int)≤(s.size:Int)∧(s.size:Int)≤40):=by unfold StP;omega
 clear b0 b1 b2 b3 hw5 k5
 have H0:=im_holds (a:=0) (b:=299) (n:=f) w5
 by_cases q0:(0≤f∧f≤299)
 rotate_left
 ·rw [dc_f q0] at H0
  rw [dc_f (fun q=>q0 (hiff.1 q).1)]
  clear hiff q0
  go_enter Try.func58,Try.ntmps58
  go_upto_region 11 with fail
  rw [← (show w5 = _ from HW)]
  go_wp2_with fail
  refine H0.mono ?_
  rintro e w6 ⟨rfl,k6⟩
  have HF:Hid (Kb 0 w w6):=(show Kb 0 w w5 from HK).trans k6
  clear H0 k6 HK
  go_wp2_with fail
  go_ret
  exact ⟨rfl,HF⟩
 rw [dc_t q0] at H0
 have H1:Hid (∀ W,Calls Try.prog 55 #[.agg #[.int .i64 0,.int .i64 0],.int .i64 l] W fun e w'=>e = .returned (.bool (dc (0≤l∧l≤0)))∧Kb 0 W w'):=(fun W=>im_holds W:∀ W,_)
 by_cases q1:(0≤l∧l≤0)
 rotate_left
 ·rw [dc_f q1] at H1
  rw [dc_f (fun q=>q1 (hiff.1 q).2.1)]
  clear hiff q0 q1
  go_enter Try.func58,Try.ntmps58
  go_upto_region 11 with fail
  rw [← (show w5 = _ from HW)]
  go_wp2_with fail
  refine H0.mono ?_
  rintro e w6 ⟨rfl,k6⟩
  have HF:Hid (Kb 0 w w6):=(show Kb 0 w w5 from HK).trans k6
  have c61:=k6.cell c1
  have d62:=k6.cell d2
  have d63:=k6.cell d3
  have H2:=(show ∀ W,_ from H1) w6
  clear H0 H1 k6 HK c0 c1 c2 d0 d1 d2 d3 d4 d5
  go_wp2_with fail
  refine H2.mono ?_
  rintro e w7 ⟨rfl,k7⟩
  have HF7:Hid (Kb 0 w w7):=(show Kb 0 w w6 from HF).trans k7
  clear H2 k7 c61 d62 d63
  go_wp2_with fail
  go_ret
  exact ⟨rfl,HF7⟩
 rw [dc_t q1] at H1
 have H3:Hid (∀ W,Calls Try.prog 55 #[.agg #[.int .i64 1,.int .i64 40],.int .i64 (s.size:Int)] W fun e w'=>e = .returned (.bool (dc (StP 3 f l s.size)))∧Kb 0 W w'):=((fun W=>by have:=im_holds (a:=1) (b:=40) (n:=(s.size:Int)) W;rw [show dc (StP 3 f l s.size)=dc (((1:Int)≤(s.size:Int)∧(s.size:Int)≤40)) from by congr 1;exact propext ⟨fun q=>(hiff.1 q).2.2,fun q=>hiff.2 ⟨q0,q1,q⟩⟩];exact this):∀ W,_)
 generalize dc (StP 3 f l s.size)=ans at H3 ⊢
 clear hiff q0 q1
 go_enter Try.func58,Try.ntmps58
 go_upto_region 11 with fail
 rw [← (show w5 = _ from HW)]
 go_wp2_with fail
 refine H0.mono ?_
 rintro e w6 ⟨rfl,k6⟩
 have HF:Hid (Kb 0 w w6):=(show Kb 0 w w5 from HK).trans k6
 have c61:=k6.cell c1
 have c62:=k6.cell c2
 have d62:=k6.cell d2
 have d63:=k6.cell d3
 have d64:=k6.cell d4
 have d65:=k6.cell d5
 have H2:=(show ∀ W,_ from H1) w6
 clear H0 H1 k6 HK c0 c1 c2 d0 d1 d2 d3 d4 d5
 go_wp2_with fail
 refine H2.mono ?_
 rintro e w7 ⟨rfl,k7⟩
 have HF7:Hid (Kb 0 w w7):=(show Kb 0 w w6 from HF).trans k7
 have c72:=k7.cell c62
 have d74:=k7.cell d64
 have d75:=k7.cell d65
 have H4:=(show ∀ W,_ from H3) w7
 clear H2 k7 c61 c62 d62 d63 d64 d65 H3
 go_wp2_with fail
 refine H4.mono ?_
 rintro e w8 ⟨rfl,k8⟩
 have HF8:Hid (Kb 0 w w8):=(show Kb 0 w w7 from HF7).trans k8
 clear H4 k8 c72 d74 d75
 cases ans
 ·go_wp2_with fail
  go_ret
  exact ⟨rfl,HF8⟩
 ·go_wp2_with fail
  go_ret
  exact ⟨rfl,HF8⟩
theorem im_stop_4 {f l : Int} {s : ByteArray} (w : World) (hs' : (s.size : Int) ≤ 9223372036854775807) :
  Calls Try.prog 58 #[.agg #[.int .i64 4,.int .i64 f,.int .i64 l,.string s]] w fun e w'=>e = .returned (.bool (dc (StP 4 f l s.size)))∧Kb 0 w w':=by
 obtain ⟨w5,hw5⟩:∃ w5,w5=(((w.alloc (.cells #[.int .i64 4,.int .i64 f,.int .i64 l,.string s] 38)).alloc (.cells #[.int .i64 0,.int .i64 0] 93)).alloc (.cells #[.int .i64 0,.int .i64 0] 93)).alloc (.cells #[.int .i64 0,.int .i64 0] 93):=⟨_,rfl⟩
 obtain ⟨b0,b1,b2,b3,k5⟩:=four_new w _ _ _ _ _ _ _ _ w5 hw5
 have c0:w5.cell? ⟨w.heap.size,1,none⟩=some (.int .i64 f):=cell_of b0 rfl
 have c1:w5.cell? ⟨w.heap.size,2,none⟩=some (.int .i64 l):=cell_of b0 rfl
 have c2:w5.cell? ⟨w.heap.size,3,none⟩=some (.string s):=cell_of b0 rfl
 have d0:w5.cell? ⟨w.heap.size+1,0,none⟩=some (.int .i64 0):=cell_of b1 rfl
 have d1:w5.cell? ⟨w.heap.size+1,1,none⟩=some (.int .i64 0):=cell_of b1 rfl
 have d2:w5.cell? ⟨w.heap.size+1+1,0,none⟩=some (.int .i64 0):=cell_of b2 rfl
 have d3:w5.cell? ⟨w.heap.size+1+1,1,none⟩=some (.int .i64 0):=cell_of b2 rfl
 have d4:w5.cell? ⟨w.heap.size+1+1+1,0,none⟩=some (.int .i64 0):=cell_of b3 rfl
 have d5:w5.cell? ⟨w.heap.size+1+1+1,1,none⟩=some (.int .i64 0):=cell_of b3 rfl
 have HW:Hid (w5 = _):=hw5
 have HK:Hid (Kb 0 w w5):=k5
 have hiff:StP 4 f l s.size↔(0≤f∧f≤0)∧(0≤l∧l≤0)∧((0:Int)≤(s.size:Int)∧(s.size:Int)≤0):=by unfold StP;omega
 clear b0 b1 b2 b3 hw5 k5
 have H0:=im_holds (a:=0) (b:=0) (n:=f) w5
 by_cases q0:(0≤f∧f≤0)
 rotate_left
 ·rw [dc_f q0] at H0
  rw [dc_f (fun q=>q0 (hiff.1 q).1)]
  clear hiff q0
  go_enter Try.func58,Try.ntmps58
  go_upto_region 11 with fail
  rw [← (show w5 = _ from HW)]
  go_wp2_with fail
  refine H0.mono ?_
  rintro e w6 ⟨rfl,k6⟩
  have HF:Hid (Kb 0 w w6):=(show Kb 0 w w5 from HK).trans k6
  clear H0 k6 HK
  go_wp2_with fail
  go_ret
  exact ⟨rfl,HF⟩
 rw [dc_t q0] at H0
 have H1:Hid (∀ W,Calls Try.prog 55 #[.agg #[.int .i64 0,.int .i64 0],.int .i64 l] W fun e w'=>e = .returned (.bool (dc (0≤l∧l≤0)))∧Kb 0 W w'):=(fun W=>im_holds W:∀ W,_)
 by_cases q1:(0≤l∧l≤0)
 rotate_left
 ·rw [dc_f q1] at H1
  rw [dc_f (fun q=>q1 (hiff.1 q).2.1)]
  clear hiff q0 q1
  go_enter Try.func58,Try.ntmps58
  go_upto_region 11 with fail
  rw [← (show w5 = _ from HW)]
  go_wp2_with fail
  refine H0.mono ?_
  rintro e w6 ⟨rfl,k6⟩
  have HF:Hid (Kb 0 w w6):=(show Kb 0 w w5 from HK).trans k6
  have c61:=k6.cell c1
  have d62:=k6.cell d2
  have d63:=k6.cell d3
  have H2:=(show ∀ W,_ from H1) w6
  clear H0 H1 k6 HK c0 c1 c2 d0 d1 d2 d3 d4 d5
  go_wp2_with fail
  refine H2.mono ?_
  rintro e w7 ⟨rfl,k7⟩
  have HF7:Hid (Kb 0 w w7):=(show Kb 0 w w6 from HF).trans k7
  clear H2 k7 c61 d62 d63
  go_wp2_with fail
  go_ret
  exact ⟨rfl,HF7⟩
 rw [dc_t q1] at H1
 have H3:Hid (∀ W,Calls Try.prog 55 #[.agg #[.int .i64 0,.int .i64 0],.int .i64 (s.size:Int)] W fun e w'=>e = .returned (.bool (dc (StP 4 f l s.size)))∧Kb 0 W w'):=((fun W=>by have:=im_holds (a:=0) (b:=0) (n:=(s.size:Int)) W;rw [show dc (StP 4 f l s.size)=dc (((0:Int)≤(s.size:Int)∧(s.size:Int)≤0)) from by congr 1;exact propext ⟨fun q=>(hiff.1 q).2.2,fun q=>hiff.2 ⟨q0,q1,q⟩⟩];exact this):∀ W,_)
 generalize dc (StP 4 f l s.size)=ans at H3 ⊢
 clear hiff q0 q1
 go_enter Try.func58,Try.ntmps58
 go_upto_region 11 with fail
 rw [← (show w5 = _ from HW)]
 go_wp2_with fail
 refine H0.mono ?_
 rintro e w6 ⟨rfl,k6⟩
 have HF:Hid (Kb 0 w w6):=(show Kb 0 w w5 from HK).trans k6
 have c61:=k6.cell c1
 have c62:=k6.cell c2
 have d62:=k6.cell d2
 have d63:=k6.cell d3
 have d64:=k6.cell d4
 have d65:=k6.cell d5
 have H2:=(show ∀ W,_ from H1) w6
 clear H0 H1 k6 HK c0 c1 c2 d0 d1 d2 d3 d4 d5
 go_wp2_with fail
 refine H2.mono ?_
 rintro e w7 ⟨rfl,k7⟩
 have HF7:Hid (Kb 0 w w7):=(show Kb 0 w w6 from HF).trans k7
 have c72:=k7.cell c62
 have d74:=k7.cell d64
 have d75:=k7.cell d65
 have H4:=(show ∀ W,_ from H3) w7
 clear H2 k7 c61 c62 d62 d63 d64 d65 H3
 go_wp2_with fail
 refine H4.mono ?_
 rintro e w8 ⟨rfl,k8⟩
 have HF8:Hid (Kb 0 w w8):=(show Kb 0 w w7 from HF7).trans k8
 clear H4 k8 c72 d74 d75
 cases ans
 ·go_wp2_with fail
  go_ret
  exact ⟨rfl,HF8⟩
 ·go_wp2_with fail
  go_ret
  exact ⟨rfl,HF8⟩
theorem im_stop {k f l : Int} {s : ByteArray} (w : World) (hs' : (s.size : Int) ≤ 9223372036854775807) :
  Calls Try.prog 58 #[.agg #[.int .i64 k,.int .i64 f,.int .i64 l,.string s]] w fun e w'=>e = .returned (.bool (dc (StP k f l s.size)))∧Kb 0 w w':=by
 by_cases k1:k=1
 ·subst k1;exact im_stop_1 w hs'
 by_cases k2:k=2
 ·subst k2;exact im_stop_2 w hs'
 by_cases k3:k=3
 ·subst k3;exact im_stop_3 w hs'
 by_cases k4:k=4
 ·subst k4;exact im_stop_4 w hs'
 rw [dc_f (fun q=>by have:=q.2.2;omega)]
 exact im_stop_x w hs' k1 k2 k3 k4
end Go.Proofs.Ytamcnmnaadpfoaa.Fo
namespace Go.Proofs.Ytamcnmnaadpfoaa.Fo.Js
open Go.ChangeShapes Go.WideShapes Go.ChangeAt Go.RowKit
set_option linter.unusedVariables false
set_option maxRecDepth 100000
def gvv (a:Gv):Value:=.agg #[.int .i64 a.k,.int .i64 a.m,.int .i64 a.r,.string a.x]
structure CelV (W:World) (b:Addr) (a:Gv):Prop where
 c0:W.cell? b=some (.int .i64 a.k)
 c1:W.cell? ⟨b.block,b.off+1,none⟩=some (.int .i64 a.m)
 c2:W.cell? ⟨b.block,b.off+2,none⟩=some (.int .i64 a.r)
 c3:W.cell? ⟨b.block,b.off+3,none⟩=some (.string a.x)
theorem CelV.keep {W W':World} {c:Nat} {b:Addr} {a:Gv} (h:CelV W b a) (hb:c≤b.block) (k:Kb c W W'):CelV W' b a :=
 ⟨k.cellA hb h.c0,k.cellA hb h.c1,k.cellA hb h.c2,k.cellA hb h.c3⟩
theorem CelV.of {W:World} {g o:Nat} {a:Gv} (h:∀ t,t < 4→W.cell? ⟨g,o+t,none⟩=([.int .i64 a.k,.int .i64 a.m,.int .i64 a.r,.string a.x]:List Value)[t]?):CelV W ⟨g,o,none⟩ a :=
 ⟨h 0 (by omega),h 1 (by omega),h 2 (by omega),h 3 (by omega)⟩
def ValC (b:Nat) (W:World) (p:Addr) (a:Gv):Prop:=CelV W p a
theorem ValC.keep {b:Nat} {W W':World} {p:Addr} {a:Gv} (h:ValC b W p a) (hb:b≤p.block) (k:Kb b W W'):ValC b W' p a:=CelV.keep h hb k
theorem ValC.mono {b c:Nat} {W:World} {p:Addr} {a:Gv} (h:ValC b W p a) (hc:c≤b):ValC c W p a:=h
def RowW (b:Nat) (W:World) (v:Value) (n:Nat) (C:Nat→Gv):Prop :=
 ∃ pa cap,v = .slice pa n cap∧(0 < n→∃ a:Addr,pa=some a∧n≤cap∧b≤a.block∧∀ i,i < n→ValC b W (a.add (i*4)) (C i))
theorem RowW.keep {b:Nat} {W W':World} {v:Value} {n:Nat} {C:Nat→Gv} (h:RowW b W v n C) (k:Kb b W W'):RowW b W' v n C:=by
 obtain ⟨pa,cap,h1,h2⟩:=h
 refine ⟨pa,cap,h1,fun hn=>?_⟩
 obtain ⟨a,e1,e2,e0,e3⟩:=h2 hn
 exact ⟨a,e1,e2,e0,fun i hi=>(e3 i hi).keep (by rw [add_block];exact e0) k⟩
theorem RowW.mono {b c:Nat} {W:World} {v:Value} {n:Nat} {C:Nat→Gv} (h:RowW b W v n C) (hc:c≤b):RowW c W v n C:=by
 obtain ⟨pa,cap,h1,h2⟩:=h
 refine ⟨pa,cap,h1,fun hn=>?_⟩
 obtain ⟨a,e1,e2,e0,e3⟩:=h2 hn
 exact ⟨a,e1,e2,Nat.le_trans hc e0,fun i hi=>(e3 i hi).mono hc⟩
def mkv (k:Int) (j:Nat):Value:=if j % 4=3 then .string (⟨#[109]⟩ ++ mtl (k+(j:Int)).toNat ⟨#[]⟩) else .int .i64 (k+(j:Int))
def OwV (W:World) (v:Value) (b c:Nat):Prop:=∃ p cap,v = .slice p c cap∧(0 < c→p=some ⟨b,0,none⟩∧c≤cap∧(∀ j,j < c*4→∃ u,W.cell? ⟨b,j,none⟩=some u)∧∀ j,W.frozen? ⟨b,j,none⟩=false)
def MdV (W:World) (v:Value) (b c:Nat) (k:Int):Prop:=∃ p cap,v = .slice p c cap∧(0 < c→p=some ⟨b,0,none⟩∧c≤cap∧∀ j,j < c*4→W.cell? ⟨b,j,none⟩=some (mkv k j))
theorem MdV.block {W W':World} {v:Value} {b c:Nat} {k:Int} (h:MdV W v b c k) (hb : 0 < c→W'.heap[b]? = W.heap[b]?):MdV W' v b c k:=by
 obtain ⟨p,cap,h1,h2⟩:=h
 exact ⟨p,cap,h1,fun hc=>⟨(h2 hc).1,(h2 hc).2.1,fun j hj=>(World.cell?_of_block (hb hc)).trans ((h2 hc).2.2 j hj)⟩⟩
theorem OwV.block {W W':World} {v:Value} {b c:Nat} (h:OwV W v b c) (hb : 0 < c→W'.heap[b]? = W.heap[b]?):OwV W' v b c:=by
 obtain ⟨p,cap,h1,h2⟩:=h
 refine ⟨p,cap,h1,fun hc=>⟨(h2 hc).1,(h2 hc).2.1,fun j hj=>?_,fun j=>(World.frozen?_of_block (hb hc)).trans ((h2 hc).2.2.2 j)⟩⟩
 obtain ⟨u,hu⟩:=(h2 hc).2.2.1 j hj
 exact ⟨u,(World.cell?_of_block (hb hc)).trans hu⟩
def RowX (b:Nat) (W:World) (v:Value) (c:Nat) (C:Nat→Gv):Prop:=RowW b W v c C∧∃ bb,b≤bb∧bb < W.heap.size∧OwV W v bb c
theorem RowX.keep {b:Nat} {W W':World} {v:Value} {c:Nat} {C:Nat→Gv} (h:RowX b W v c C) (k:Kb b W W'):RowX b W' v c C:=by
 obtain ⟨h1,bb,h2,h3,h4⟩:=h
 exact ⟨h1.keep k,bb,h2,Nat.lt_of_lt_of_le h3 k.size,h4.block (fun _=>k.block bb h2 h3)⟩
theorem RowX.mono {b d:Nat} {W:World} {v:Value} {c:Nat} {C:Nat→Gv} (h:RowX b W v c C) (hd:d≤b):RowX d W v c C:=by
 obtain ⟨h1,bb,h2,h3⟩:=h
 exact ⟨h1.mono hd,bb,Nat.le_trans hd h2,h3⟩
end Go.Proofs.Ytamcnmnaadpfoaa.Fo.Js
namespace Go.Proofs.Ytamcnmnaadpfoaa.Fo
open Go.ChangeShapes Go.WideShapes Go.ChangeAt Go.RowKit
set_option linter.unusedVariables false
set_option maxRecDepth 100000
def vb (u:Nat):List UInt8:=if h:u < 128 then [UInt8.ofNat u] else UInt8.ofNat (128+u % 128) :: vb (u / 128)
termination_by u
decreasing_by omega
theorem vb_lt {u:Nat} (h:u < 128):vb u = [UInt8.ofNat u]:=by rw [vb,dif_pos h]
theorem vb_ge {u:Nat} (h:¬ u < 128):vb u=UInt8.ofNat (128+u % 128) :: vb (u / 128):=by rw [vb,dif_neg h]
def Gy (M:List UInt8) (k:Nat) (bad:Bool) (i u k':Nat) (bad':Bool):Prop:=∀ (y:Nat) rest,y < 18446744073709551616→M.drop k=vb y ++ rest→M.drop k'=vb (y / 128 ^ i) ++ rest∧u=y % 128 ^ i∧bad'=bad∧k'+(vb (y / 128 ^ i)).length=k+(vb y).length∧(i=0∨128 ^ i≤y)
theorem drop_cons {M:List UInt8} {k:Nat} {z:UInt8} {r:List UInt8} (h:M.drop k=z :: r):M[k]? = some z∧M.drop (k+1)=r:=by
 constructor
 ·have:=congrArg (fun l=>l[0]?) h
  simpa using this
 ·have:=congrArg (fun l=>l.drop 1) h
  simpa [List.drop_drop] using this
theorem tn {z:Nat} (h:z < 256):(UInt8.ofNat z).toNat=z:=by rw [UInt8.toNat_ofNat'];exact Nat.mod_eq_of_lt h
def ad (u i x:Nat):Nat:=u ||| (x % 128*2 ^ (7*i) % 18446744073709551616)
theorem ad_lt {u:Nat} (i x:Nat) (h:u < 18446744073709551616):ad u i x < 18446744073709551616:=Nat.or_lt_two_pow (n:=64) h (Nat.mod_lt _ (by decide))
theorem p128 (i:Nat) : 128 ^ i=2 ^ (7*i):=by rw [Nat.pow_mul]
theorem ad_step {y i:Nat} (hy:y < 18446744073709551616):ad (y % 128 ^ i) i (y / 128 ^ i % 128)=y % 128 ^ (i+1):=by
 have e:y % 128 ^ (i+1)=2 ^ (7*i)*(y / 128 ^ i % 128)+y % 128 ^ i:=by rw [Nat.pow_succ,Nat.mod_mul,Nat.add_comm,p128]
 have hle:y % 128 ^ (i+1)≤y:=Nat.mod_le _ _
 unfold ad
 rw [Nat.mod_mod,Nat.mul_comm,Nat.mod_eq_of_lt (a:=2 ^ (7*i)*_) (by omega),e,Nat.or_comm]
 exact (Nat.two_pow_add_eq_or_of_lt (by rw [← p128];exact Nat.mod_lt _ (Nat.pow_pos (by decide))) _).symm
theorem ad_mod (u i x:Nat):ad u i (x % 128)=ad u i x:=by unfold ad;rw [Nat.mod_mod]
theorem gy_next {M:List UInt8} {k:Nat} {bad:Bool} {i u k':Nat} {bad':Bool} {x k1:Nat} {bad1:Bool} (h:Gy M k bad i u k' bad') (hb:∀ y,M[k']? = some y→x=y.toNat∧k1=k'+1∧bad1=bad') (hx : 128≤x):Gy M k bad (i+1) (ad u i x) k1 bad1:=by
 intro y rest hy hm
 obtain ⟨g1,rfl,g3,g4,g5⟩:=h y rest hy hm
 by_cases hc:y / 128 ^ i < 128
 ·rw [vb_lt hc] at g1
  obtain ⟨q1,q2⟩:=drop_cons g1
  obtain ⟨rfl,_,_⟩:=hb _ q1
  rw [tn (by omega)] at hx
  omega
 ·rw [vb_ge hc] at g1 g4
  obtain ⟨q1,q2⟩:=drop_cons g1
  obtain ⟨rfl,rfl,rfl⟩:=hb _ q1
  have e:y / 128 ^ i / 128=y / 128 ^ (i+1):=by rw [Nat.div_div_eq_div_mul,Nat.pow_succ]
  rw [e] at q2 g4
  refine ⟨q2,?_,g3,by rw [List.length_cons] at g4;omega,.inr ?_⟩
  ·rw [tn (by omega),← ad_mod,show (128+y / 128 ^ i % 128) % 128=y / 128 ^ i % 128 by omega]
   exact ad_step hy
  ·rw [Nat.pow_succ,Nat.mul_comm]
   exact (Nat.le_div_iff_mul_le (Nat.pow_pos (by decide))).1 (by omega)
theorem gy_end {M:List UInt8} {k:Nat} {bad:Bool} {i u k':Nat} {bad':Bool} {x k1:Nat} {bad1:Bool} (h:Gy M k bad i u k' bad') (hb:∀ y,M[k']? = some y→x=y.toNat∧k1=k'+1∧bad1=bad') (hx:x < 128) {y:Nat} {rest:List UInt8} (hy:y < 18446744073709551616) (hm:M.drop k=vb y ++ rest):ad u i x=y∧k1=k+(vb y).length∧bad1=bad:=by
 obtain ⟨g1,rfl,g3,g4,g5⟩:=h y rest hy hm
 by_cases hc:y / 128 ^ i < 128
 ·rw [vb_lt hc] at g1 g4
  obtain ⟨q1,q2⟩:=drop_cons g1
  obtain ⟨rfl,rfl,rfl⟩:=hb _ q1
  refine ⟨?_,by rw [List.length_cons] at g4;simp at g4;omega,g3⟩
  rw [tn (by omega),← Nat.mod_eq_of_lt hc,ad_step hy,Nat.mod_eq_of_lt]
  rw [Nat.pow_succ,Nat.mul_comm]
  exact (Nat.div_lt_iff_lt_mul (Nat.pow_pos (by decide))).1 hc
 ·rw [vb_ge hc] at g1
  obtain ⟨q1,q2⟩:=drop_cons g1
  obtain ⟨rfl,_,_⟩:=hb _ q1
  rw [tn (by omega)] at hx
  omega
theorem gy_ten {M:List UInt8} {k:Nat} {bad:Bool} {u k':Nat} {bad':Bool} (h:Gy M k bad 10 u k' bad') {y:Nat} {rest:List UInt8} (hy:y < 18446744073709551616) (hm:M.drop k=vb y ++ rest):False:=by
 obtain ⟨g1,g2,g3,g4,g5⟩:=h y rest hy hm
 have:(18446744073709551616:Nat)≤128 ^ 10:=by decide
 omega
def toI (l:List UInt8):List Int:=l.map (fun b=>(b.toNat:Int))
theorem toI_app (a b:List UInt8):toI (a ++ b)=toI a ++ toI b:=by unfold toI;rw [List.map_append]
theorem toI_len (a:List UInt8):(toI a).length=a.length:=by unfold toI;rw [List.length_map]
theorem toI_inj:∀ {a b:List UInt8},toI a=toI b→a=b
 | [],[],_=>rfl
 | [],_ :: _,h=>by simp [toI] at h
 | _ :: _,[],h=>by simp [toI] at h
 | x :: a,y :: b,h=>by
  have h':(x.toNat:Int)=(y.toNat:Int)∧toI a=toI b:=by simpa [toI] using h
  have e:x=y:=UInt8.toNat_inj.1 (by have:=h'.1;omega)
  rw [e,toI_inj h'.2]
theorem toI_vb:∀ n:Nat,toI (vb n)=numb n:=by
 intro n
 induction n using Nat.strongRecOn with
 | ind n ih =>
  by_cases h:n < 128
  ·rw [vb_lt h,numb_lt (by omega)]
   show [((UInt8.ofNat n).toNat:Int)] = _
   rw [tn (by omega)]
  ·rw [vb_ge h,numb_ge (by omega)]
   show ((UInt8.ofNat (128+n % 128)).toNat:Int) :: toI (vb (n / 128)) = _
   rw [tn (by omega),ih (n / 128) (by omega)]
   congr 1
   omega
def e8 (n:Nat):Nat→List UInt8
 | 0=>[]
 | k+1=>e8 n k ++ [UInt8.ofNat (n / 256 ^ k)]
theorem toI_e8 (n:Nat):∀ k,toI (e8 n k)=eig n k
 | 0=>rfl
 | k+1=>by
  show toI (e8 n k ++ [_])=eig n k ++ [_]
  rw [toI_app,toI_e8 n k]
  show _ ++ [((UInt8.ofNat (n / 256 ^ k)).toNat:Int)] = _
  rw [UInt8.toNat_ofNat']
theorem e8_len (n:Nat):∀ k,(e8 n k).length=k
 | 0=>rfl
 | k+1=>by show (e8 n k ++ [_]).length = _;rw [List.length_append,e8_len n k];rfl
structure RD (b:Nat) (a:Addr) (c:Nat) (M:List UInt8) (k:Nat) (bad:Bool) (W:World):Prop where
 blk:W.heap[b]? = some (.cells #[.slice (some a) M.length c,.int .i64 (k:Int),.bool bad] 70 (0,0))
 le:k≤8200
 sz:M.length≤8192
 cap:M.length≤c
 ne:a.block ≠ b
 row:∀ i (x:UInt8),M[i]? = some x→W.cell? (a.add i)=some (.int .u8 (x.toNat:Int))
theorem RD.kz {b:Nat} {a:Addr} {c:Nat} {M:List UInt8} {k k':Nat} {bad bad':Bool} {W w':World} (h:RD b a c M k bad W) (z:Kz b W w') (hb:w'.heap[b]? = some (.cells #[.slice (some a) M.length c,.int .i64 (k':Int),.bool bad'] 70 (0,0))) (hk:k'≤8200):RD b a c M k' bad' w' :=
 ⟨hb,hk,h.sz,h.cap,h.ne,fun i x hx=>(World.cell?_of_block (by rw [add_block];exact z.block _ h.ne)).trans (h.row i x hx)⟩
theorem Kz.trans {b:Nat} {W w1 w2:World} (h:Kz b W w1) (k:Kz b w1 w2):Kz b W w2:=⟨k.os.trans h.os,k.output.trans h.output,k.size.trans h.size,fun i hi=>(k.block i hi).trans (h.block i hi)⟩
theorem Kz.drewN {b:Nat} {W w1:World} (h:Kz b W w1) (n:Nat):Kz b W (w1.drewN n):=⟨h.os,h.output,h.size,h.block⟩
def RP (b:Nat) (a:Addr) (c:Nat) (M:List UInt8) (k:Nat) (W:World) (Q:Value→Nat→Bool→Prop) (e:Ending) (w':World):Prop:=∃ v k' bad',e = .returned v∧RD b a c M k' bad' w'∧k≤k'∧Kz b W w'∧Q v k' bad'
theorem rd_byte {b : Nat} {a : Addr} {c : Nat} {M : List UInt8} {k : Nat} {bad : Bool} {W : World} (h : RD b a c M k bad W) :
  Calls Try.prog 69 #[.pointer (some ⟨b,0,none⟩)] W (RP b a c M k W (fun v k' bad'=>∃ x:Nat,v = .int .u8 (x:Int)∧x < 256∧(k'=k∨bad=true→bad'=true)∧∀ y,M[k]? = some y→x=y.toNat∧k'=k+1∧bad'=bad)):=by
 have c0:W.cell? ⟨b,0,none⟩=some (.slice (some a) M.length c):=cell_of h.blk rfl
 have c1:W.cell? ⟨b,1,none⟩=some (.int .i64 (k:Int)):=cell_of h.blk rfl
 have c2:W.cell? ⟨b,2,none⟩=some (.bool bad):=cell_of h.blk rfl
 have f1:W.frozen? ⟨b,1,none⟩=false:=frozen_of h.blk
 have f2:W.frozen? ⟨b,2,none⟩=false:=frozen_of h.blk
 have hle:=h.le
 have hsz:=h.sz
 have hcap:=h.cap
 have hne:=h.ne
 obtain ⟨n,hn⟩:∃ n,n=M.length:=⟨_,rfl⟩
 have HH:Hid (RD b a c M k bad W∧n=M.length):=(⟨h,hn⟩:_∧_)
 rw [← hn] at c0 hsz hcap
 by_cases hk:k < n
 ·obtain ⟨x,hx⟩:∃ x,M[k]? = some x:=⟨_,List.getElem?_eq_getElem (by omega)⟩
  have hs:wrap64 ((k:Int)+1 - 1)=(k:Int):=by unfold wrap64;omega
  have hr:∀ v,(W.setCell ⟨b,1,none⟩ v).cell? (a.add k)=some (.int .u8 (x.toNat:Int)):=fun v=>(World.cell?_of_block (by rw [add_block];exact Below.heap_setCell _ _ _ _ hne)).trans (h.row k x hx)
  have HX:Hid (M[k]? = some x):=hx
  have hxl:(x.toNat:Int) < 256:=by have:=x.toNat_lt;omega
  have hg:¬ (n:Int)≤(k:Int):=by omega
  have hkI:(k:Int) < (n:Int):=by omega
  have hnI:(n:Int)≤1000000:=by omega
  have hB:∀ (d:Nat),RD b a c M (k+1) bad ((W.drewN d).setCell ⟨b,1,none⟩ (.int .i64 ((k:Int)+1)))∧Kz b W ((W.drewN d).setCell ⟨b,1,none⟩ (.int .i64 ((k:Int)+1))):=fun d=>by
   have z:Kz b W ((W.drewN d).setCell ⟨b,1,none⟩ (.int .i64 ((k:Int)+1))):=((Kz.refl b W).drewN d).set 1 _
   exact ⟨h.kz z (by have:=set_known (W:=W.drewN d) (j:=1) (.int .i64 ((k:Int)+1)) h.blk;exact this) (by omega),z⟩
  have HB:Hid (∀ (d:Nat),_):=hB
  clear h hle hsz hn hx hk hB
  generalize hX:x.toNat=X at *
  have HXX:Hid (x.toNat=X):=hX
  clear hX
  go_enter Try.func69,Try.ntmps69
  go_wp2_with fail
  go_quiet (skip)
  go_wp2_with fail
  have hr2:=hr (Value.int IntKind.i64 (↑k+1))
  obtain ⟨y1,y2⟩:=(show ∀ d:Nat,_ from HB) nq
  clear HB
  generalize hW:((W.drewN nq).setCell { block:=b,off:=1 } (Value.int IntKind.i64 (↑k+1)))=W2 at *
  obtain ⟨hn,d0,d1⟩:n=M.length∧W2.cell? ⟨b,0,none⟩=some (.slice (some a) M.length c)∧W2.cell? ⟨b,1,none⟩=some (.int .i64 ((k+1:Nat):Int)):=⟨HH.2,cell_of y1.blk rfl,cell_of y1.blk rfl⟩
  rw [← hn] at d0
  rw [show ((k+1:Nat):Int)=(k:Int)+1 from rfl] at d1
  have d2:W2.cell? (a.add k)=some (.int .u8 (X:Int)):=by rw [← hW];exact hr2
  have HY:Hid (RD b a c M (k+1) bad W2∧Kz b W W2):=(⟨y1,y2⟩:_∧_)
  clear hr hr2 hW y1 y2 hn
  go_quiet (skip)
  go_wp2_with fail
  go_ret
  obtain ⟨y1,y2⟩:=(show _∧_ from HY)
  exact ⟨_,k+1,bad,rfl,⟨y1.blk,y1.le,y1.sz,y1.cap,y1.ne,y1.row⟩,by omega,y2.drewN _,X,rfl,by omega,fun e=>e.elim (fun e=>by omega) id,fun y hy=>⟨by have:=HX;have h2:=HXX;rw [show M[k]? = some x from HX] at hy;injection hy with hy;rw [← hy];exact h2.symm,rfl,rfl⟩⟩
 ·have hg:(n:Int)≤(k:Int):=by omega
  have hnI:(n:Int)≤1000000:=by omega
  have hB:∀ (d:Nat),RD b a c M k true ((W.drewN d).setCell ⟨b,2,none⟩ (.bool true))∧Kz b W ((W.drewN d).setCell ⟨b,2,none⟩ (.bool true)):=fun d=>by
   have z:Kz b W ((W.drewN d).setCell ⟨b,2,none⟩ (.bool true)):=((Kz.refl b W).drewN d).set 2 _
   exact ⟨h.kz z (by have:=set_known (W:=W.drewN d) (j:=2) (.bool true) h.blk;exact this) (by omega),z⟩
  have HB:Hid (∀ (d:Nat),_):=hB
  have HN:Hid (∀ y,M[k]? = some y→False):=(fun y hy=>by have:=(List.getElem?_eq_some_iff.1 hy).1;omega:∀ y,M[k]? = some y→False)
  clear h hle hsz hn hk hB
  go_enter Try.func69,Try.ntmps69
  go_wp2_with fail
  go_quiet (skip)
  go_wp2_with fail
  go_ret
  obtain ⟨y1,y2⟩:=(show ∀ d:Nat,_ from HB) nq
  exact ⟨_,k,true,rfl,y1,Nat.le_refl _,y2,0,rfl,by omega,fun _=>rfl,fun y hy=>((show ∀ y,_→False from HN) y hy).elim⟩
end Go.Proofs.Ytamcnmnaadpfoaa.Fo
