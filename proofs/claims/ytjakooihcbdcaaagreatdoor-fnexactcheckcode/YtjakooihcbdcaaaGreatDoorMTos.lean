import Derived.Test.YtjakooihcbdcaaaGreatDoorMZsq
import Derived.Test.YtjakooihcbdcaaaGreatDoorMTor
set_option maxHeartbeats 8000000
namespace Go.Proofs.YtjakooihcbdcaaaGreatDoor.Fo
open Go.ChangeShapes Go.WideShapes Go.ChangeAt Go.RowKit
set_option linter.unusedVariables false
set_option maxRecDepth 100000
theorem set2_0 {W:World} {s:Nat} {u:Value} (h:W.cell? ⟨s,0,none⟩=some u):∀ x,(W.setCell ⟨s,0,none⟩ x).cell? ⟨s,0,none⟩=some x:=fun x=>set_eq _ _ _ _ _ h
theorem set2_1 {W:World} {s:Nat} {u:Value} (h:W.cell? ⟨s,1,none⟩=some u):∀ x y,((W.setCell ⟨s,0,none⟩ x).setCell ⟨s,1,none⟩ y).cell? ⟨s,1,none⟩=some y:=fun x y=>set_eq _ _ _ _ u (by rw [set_ne _ _ _ _ _ (by omega)];exact h)
open Classical in
def cst (v:Iv):Prop:=v.o=1∨v.o=3∨v.o=28∨(v.o=18∧v.b=12)
open Classical in
noncomputable def ssa (v:Iv) (i:Nat):Int:=if cst v∨Ends v.o∨v.o=41 then -1 else (i:Int)+1
open Classical in
noncomputable def ssb (v:Iv):Int:=if cst v then -1 else tgi v
theorem ss_1 {C : Nat} {d : Pd} {pn : Option Addr} {cn i : Nat} {o oa ob oc od : Int} (w : World) (h7 : w.cell? ⟨C, 7, none⟩ = some (.slice pn d.n cn)) (hrow : RowI 0 w (.slice pn d.n cn) d.n d.N) (hgd : Gd w) (hi : i < d.n) (hn : d.n ≤ 1048576) (ho : 1 ≤ o ∧ o ≤ 42) (ha : d.N i = ⟨o, oa, ob, oc, od⟩) (h : o = 1) :
  Calls Tryz.prog 173 #[.pointer (some ⟨C,0,none⟩),.int .i64 i] w fun e w'=>e = .returned (.agg #[.int .i64 (ssa (d.N i) i),.int .i64 (ssb (d.N i))])∧Kb 0 w w':=by
 have g0:(o == 1)=true:=beq1 h;obtain ⟨pn',cn',ee,hr2⟩:=hrow;obtain ⟨rfl,rfl⟩:pn=pn'∧cn=cn':=by simpa using ee
 obtain ⟨p,rfl,hcp,-,hrb⟩:=hr2 (by omega);have hci:=hrb i hi;have iI:(i:Int) < (d.n:Int):=by omega
 have nI:(d.n:Int)≤1048576:=by omega
 obtain ⟨w1,hw1⟩:∃ w1,w1=w.alloc (.cells #[.int .i64 0,.int .i64 0] 235):=⟨_,rfl⟩
 obtain ⟨s0,hs0⟩:∃ s0,s0=w.heap.size:=⟨_,rfl⟩
 have k1:Kb 0 w w1:=by rw [hw1];exact kb_alloc _ _ _
 have hb1:w1.heap[s0]? = some (.cells #[.int .i64 0,.int .i64 0] 235 (0,0)):=by rw [hw1,hs0];exact alloc_new _ _ _
 have hz1:w1.heap.size=s0+1:=by rw [hw1,hs0];exact World.size_alloc _ _
 have c7:=k1.cell h7;obtain ⟨w3,hw3⟩:∃ w3,w3=w1.alloc (.cells #[.int .i64 o,.int .i64 oa,.int .i64 ob,.int .i64 oc,.int .i64 od] 84):=⟨_,rfl⟩
 obtain ⟨s1,hs1⟩:∃ s1,s1=w1.heap.size:=⟨_,rfl⟩
 have k3:Kb 0 w1 w3:=by rw [hw3];exact kb_alloc _ _ _
 have hb3:w3.heap[s1]? = some (.cells #[.int .i64 o,.int .i64 oa,.int .i64 ob,.int .i64 oc,.int .i64 od] 84 (0,0)):=by rw [hw3,hs1];exact alloc_new _ _ _
 have hb0:w3.heap[s0]? = some (.cells #[.int .i64 0,.int .i64 0] 235 (0,0)):=by rw [k3.block _ zq (by omega)];exact hb1
 rw [ha] at hci;obtain ⟨q0,q1,q2,q3,q4⟩:=CelI.keep (c:=0) hci zq k1;have y0:w3.cell? ⟨s1,0,none⟩=some (.int .i64 o):=cell_of hb3 rfl;have y1:w3.cell? ⟨s1,1,none⟩=some (.int .i64 oa):=cell_of hb3 rfl;have y2:w3.cell? ⟨s1,2,none⟩=some (.int .i64 ob):=cell_of hb3 rfl;have y3:w3.cell? ⟨s1,3,none⟩=some (.int .i64 oc):=cell_of hb3 rfl;have y4:w3.cell? ⟨s1,4,none⟩=some (.int .i64 od):=cell_of hb3 rfl;have HT:Hid (w3.heap[s0]? = some (.cells #[.int .i64 0,.int .i64 0] 235 (0,0))∧w.heap.size≤s0∧Kb 0 w w3∧Gd w3):=(⟨hb0,by omega,k1.trans k3,hgd.keep (k1.trans k3)⟩:_∧_)
 have HW1:Hid (w1 = _∧s0 = _):=⟨hw1,hs0⟩
 have HW3:Hid (w3 = _∧s1 = _):=⟨hw3,hs1⟩
 have HV:Hid (ssa (d.N i) i = -1∧ssb (d.N i) = -1):=by
  rw [ha];exact ⟨if_pos (.inl (.inl h)),if_pos (.inl h)⟩
 have HE:=im_ends o;clear hw1 hs0 k1 hb1 hz1 hw3 hs1 k3 hb3 hb0 hr2 hrb hci hcp ee hi hn ha hgd h7 h;go_enter Tryz.func173,Tryz.ntmps173;go_upto_region 1 with fail;rw [← (uh HW1).1,← (uh HW1).2];clear HW1;go_upto_region 2 with fail;rw [← (uh HW3).1,← (uh HW3).2];clear HW3;obtain ⟨hb0,hs,k03,hgd⟩:=(uh HT)
 have z0:w3.cell? ⟨s0,0,none⟩=some (.int .i64 0):=cell_of hb0 rfl;have z1:w3.cell? ⟨s0,1,none⟩=some (.int .i64 0):=cell_of hb0 rfl;have f0:w3.frozen? ⟨s0,0,none⟩=false:=frozen_of hb0;have f1:w3.frozen? ⟨s0,1,none⟩=false:=frozen_of hb0;have HS:Hid (w.heap.size≤s0∧Kb 0 w w3):=⟨hs,k03⟩
 have hs0:s0 < w3.heap.size:=(Array.getElem?_eq_some_iff.1 hb0).1;clear hb0 hs k03 hgd HE HT;go_wp2_with fail;refine bodyPost_ret (by simp [results,Tryz.results173,go_sem,set2_0 z0,set2_1 z1];rfl) rfl ?_;rw [(uh HV).1,(uh HV).2];exact ⟨rfl,(((uh HS).2.setCell _ (.inr (uh HS).1) _).setCell _ (.inr (uh HS).1) _)⟩
theorem ss_3 {C : Nat} {d : Pd} {pn : Option Addr} {cn i : Nat} {o oa ob oc od : Int} (w : World) (h7 : w.cell? ⟨C, 7, none⟩ = some (.slice pn d.n cn)) (hrow : RowI 0 w (.slice pn d.n cn) d.n d.N) (hgd : Gd w) (hi : i < d.n) (hn : d.n ≤ 1048576) (ho : 1 ≤ o ∧ o ≤ 42) (ha : d.N i = ⟨o, oa, ob, oc, od⟩) (h : o = 3) :
  Calls Tryz.prog 173 #[.pointer (some ⟨C,0,none⟩),.int .i64 i] w fun e w'=>e = .returned (.agg #[.int .i64 (ssa (d.N i) i),.int .i64 (ssb (d.N i))])∧Kb 0 w w':=by
 have g0:(o == 3)=true:=beq1 h;have g1:(o == 1)=false:=bne (by omega);obtain ⟨pn',cn',ee,hr2⟩:=hrow;obtain ⟨rfl,rfl⟩:pn=pn'∧cn=cn':=by simpa using ee
 obtain ⟨p,rfl,hcp,-,hrb⟩:=hr2 (by omega);have hci:=hrb i hi;have iI:(i:Int) < (d.n:Int):=by omega
 have nI:(d.n:Int)≤1048576:=by omega
 obtain ⟨w1,hw1⟩:∃ w1,w1=w.alloc (.cells #[.int .i64 0,.int .i64 0] 235):=⟨_,rfl⟩
 obtain ⟨s0,hs0⟩:∃ s0,s0=w.heap.size:=⟨_,rfl⟩
 have k1:Kb 0 w w1:=by rw [hw1];exact kb_alloc _ _ _
 have hb1:w1.heap[s0]? = some (.cells #[.int .i64 0,.int .i64 0] 235 (0,0)):=by rw [hw1,hs0];exact alloc_new _ _ _
 have hz1:w1.heap.size=s0+1:=by rw [hw1,hs0];exact World.size_alloc _ _
 have c7:=k1.cell h7;obtain ⟨w3,hw3⟩:∃ w3,w3=w1.alloc (.cells #[.int .i64 o,.int .i64 oa,.int .i64 ob,.int .i64 oc,.int .i64 od] 84):=⟨_,rfl⟩
 obtain ⟨s1,hs1⟩:∃ s1,s1=w1.heap.size:=⟨_,rfl⟩
 have k3:Kb 0 w1 w3:=by rw [hw3];exact kb_alloc _ _ _
 have hb3:w3.heap[s1]? = some (.cells #[.int .i64 o,.int .i64 oa,.int .i64 ob,.int .i64 oc,.int .i64 od] 84 (0,0)):=by rw [hw3,hs1];exact alloc_new _ _ _
 have hb0:w3.heap[s0]? = some (.cells #[.int .i64 0,.int .i64 0] 235 (0,0)):=by rw [k3.block _ zq (by omega)];exact hb1
 rw [ha] at hci;obtain ⟨q0,q1,q2,q3,q4⟩:=CelI.keep (c:=0) hci zq k1;have y0:w3.cell? ⟨s1,0,none⟩=some (.int .i64 o):=cell_of hb3 rfl;have y1:w3.cell? ⟨s1,1,none⟩=some (.int .i64 oa):=cell_of hb3 rfl;have y2:w3.cell? ⟨s1,2,none⟩=some (.int .i64 ob):=cell_of hb3 rfl;have y3:w3.cell? ⟨s1,3,none⟩=some (.int .i64 oc):=cell_of hb3 rfl;have y4:w3.cell? ⟨s1,4,none⟩=some (.int .i64 od):=cell_of hb3 rfl;have HT:Hid (w3.heap[s0]? = some (.cells #[.int .i64 0,.int .i64 0] 235 (0,0))∧w.heap.size≤s0∧Kb 0 w w3∧Gd w3):=(⟨hb0,by omega,k1.trans k3,hgd.keep (k1.trans k3)⟩:_∧_)
 have HW1:Hid (w1 = _∧s0 = _):=⟨hw1,hs0⟩
 have HW3:Hid (w3 = _∧s1 = _):=⟨hw3,hs1⟩
 have HV:Hid (ssa (d.N i) i = -1∧ssb (d.N i) = -1):=by
  rw [ha];exact ⟨if_pos (.inl (.inr (.inl h))),if_pos (.inr (.inl h))⟩
 have HE:=im_ends o;clear hw1 hs0 k1 hb1 hz1 hw3 hs1 k3 hb3 hb0 hr2 hrb hci hcp ee hi hn ha hgd h7 h;go_enter Tryz.func173,Tryz.ntmps173;go_upto_region 1 with fail;rw [← (uh HW1).1,← (uh HW1).2];clear HW1;go_upto_region 2 with fail;rw [← (uh HW3).1,← (uh HW3).2];clear HW3;obtain ⟨hb0,hs,k03,hgd⟩:=(uh HT)
 have z0:w3.cell? ⟨s0,0,none⟩=some (.int .i64 0):=cell_of hb0 rfl;have z1:w3.cell? ⟨s0,1,none⟩=some (.int .i64 0):=cell_of hb0 rfl;have f0:w3.frozen? ⟨s0,0,none⟩=false:=frozen_of hb0;have f1:w3.frozen? ⟨s0,1,none⟩=false:=frozen_of hb0;have HS:Hid (w.heap.size≤s0∧Kb 0 w w3):=⟨hs,k03⟩
 have hs0:s0 < w3.heap.size:=(Array.getElem?_eq_some_iff.1 hb0).1;clear hb0 hs k03 hgd HE HT;go_wp2_with fail;refine bodyPost_ret (by simp [results,Tryz.results173,go_sem,set2_0 z0,set2_1 z1];rfl) rfl ?_;rw [(uh HV).1,(uh HV).2];exact ⟨rfl,(((uh HS).2.setCell _ (.inr (uh HS).1) _).setCell _ (.inr (uh HS).1) _)⟩
theorem ss_28 {C : Nat} {d : Pd} {pn : Option Addr} {cn i : Nat} {o oa ob oc od : Int} (w : World) (h7 : w.cell? ⟨C, 7, none⟩ = some (.slice pn d.n cn)) (hrow : RowI 0 w (.slice pn d.n cn) d.n d.N) (hgd : Gd w) (hi : i < d.n) (hn : d.n ≤ 1048576) (ho : 1 ≤ o ∧ o ≤ 42) (ha : d.N i = ⟨o, oa, ob, oc, od⟩) (h : o = 28) :
  Calls Tryz.prog 173 #[.pointer (some ⟨C,0,none⟩),.int .i64 i] w fun e w'=>e = .returned (.agg #[.int .i64 (ssa (d.N i) i),.int .i64 (ssb (d.N i))])∧Kb 0 w w':=by
 have g0:(o == 28)=true:=beq1 h;have g1:(o == 1)=false:=bne (by omega);have g2:(o == 3)=false:=bne (by omega);obtain ⟨pn',cn',ee,hr2⟩:=hrow;obtain ⟨rfl,rfl⟩:pn=pn'∧cn=cn':=by simpa using ee
 obtain ⟨p,rfl,hcp,-,hrb⟩:=hr2 (by omega);have hci:=hrb i hi;have iI:(i:Int) < (d.n:Int):=by omega
 have nI:(d.n:Int)≤1048576:=by omega
 obtain ⟨w1,hw1⟩:∃ w1,w1=w.alloc (.cells #[.int .i64 0,.int .i64 0] 235):=⟨_,rfl⟩
 obtain ⟨s0,hs0⟩:∃ s0,s0=w.heap.size:=⟨_,rfl⟩
 have k1:Kb 0 w w1:=by rw [hw1];exact kb_alloc _ _ _
 have hb1:w1.heap[s0]? = some (.cells #[.int .i64 0,.int .i64 0] 235 (0,0)):=by rw [hw1,hs0];exact alloc_new _ _ _
 have hz1:w1.heap.size=s0+1:=by rw [hw1,hs0];exact World.size_alloc _ _
 have c7:=k1.cell h7;obtain ⟨w3,hw3⟩:∃ w3,w3=w1.alloc (.cells #[.int .i64 o,.int .i64 oa,.int .i64 ob,.int .i64 oc,.int .i64 od] 84):=⟨_,rfl⟩
 obtain ⟨s1,hs1⟩:∃ s1,s1=w1.heap.size:=⟨_,rfl⟩
 have k3:Kb 0 w1 w3:=by rw [hw3];exact kb_alloc _ _ _
 have hb3:w3.heap[s1]? = some (.cells #[.int .i64 o,.int .i64 oa,.int .i64 ob,.int .i64 oc,.int .i64 od] 84 (0,0)):=by rw [hw3,hs1];exact alloc_new _ _ _
 have hb0:w3.heap[s0]? = some (.cells #[.int .i64 0,.int .i64 0] 235 (0,0)):=by rw [k3.block _ zq (by omega)];exact hb1
 rw [ha] at hci;obtain ⟨q0,q1,q2,q3,q4⟩:=CelI.keep (c:=0) hci zq k1;have y0:w3.cell? ⟨s1,0,none⟩=some (.int .i64 o):=cell_of hb3 rfl;have y1:w3.cell? ⟨s1,1,none⟩=some (.int .i64 oa):=cell_of hb3 rfl;have y2:w3.cell? ⟨s1,2,none⟩=some (.int .i64 ob):=cell_of hb3 rfl;have y3:w3.cell? ⟨s1,3,none⟩=some (.int .i64 oc):=cell_of hb3 rfl;have y4:w3.cell? ⟨s1,4,none⟩=some (.int .i64 od):=cell_of hb3 rfl;have HT:Hid (w3.heap[s0]? = some (.cells #[.int .i64 0,.int .i64 0] 235 (0,0))∧w.heap.size≤s0∧Kb 0 w w3∧Gd w3):=(⟨hb0,by omega,k1.trans k3,hgd.keep (k1.trans k3)⟩:_∧_)
 have HW1:Hid (w1 = _∧s0 = _):=⟨hw1,hs0⟩
 have HW3:Hid (w3 = _∧s1 = _):=⟨hw3,hs1⟩
 have HV:Hid (ssa (d.N i) i = -1∧ssb (d.N i) = -1):=by
  rw [ha];exact ⟨if_pos (.inl (.inr (.inr (.inl h)))),if_pos (.inr (.inr (.inl h)))⟩
 have HE:=im_ends o;clear hw1 hs0 k1 hb1 hz1 hw3 hs1 k3 hb3 hb0 hr2 hrb hci hcp ee hi hn ha hgd h7 h;go_enter Tryz.func173,Tryz.ntmps173;go_upto_region 1 with fail;rw [← (uh HW1).1,← (uh HW1).2];clear HW1;go_upto_region 2 with fail;rw [← (uh HW3).1,← (uh HW3).2];clear HW3;obtain ⟨hb0,hs,k03,hgd⟩:=(uh HT)
 have z0:w3.cell? ⟨s0,0,none⟩=some (.int .i64 0):=cell_of hb0 rfl;have z1:w3.cell? ⟨s0,1,none⟩=some (.int .i64 0):=cell_of hb0 rfl;have f0:w3.frozen? ⟨s0,0,none⟩=false:=frozen_of hb0;have f1:w3.frozen? ⟨s0,1,none⟩=false:=frozen_of hb0;have HS:Hid (w.heap.size≤s0∧Kb 0 w w3):=⟨hs,k03⟩
 have hs0:s0 < w3.heap.size:=(Array.getElem?_eq_some_iff.1 hb0).1;clear hb0 hs k03 hgd HE HT;go_wp2_with fail;refine bodyPost_ret (by simp [results,Tryz.results173,go_sem,set2_0 z0,set2_1 z1];rfl) rfl ?_;rw [(uh HV).1,(uh HV).2];exact ⟨rfl,(((uh HS).2.setCell _ (.inr (uh HS).1) _).setCell _ (.inr (uh HS).1) _)⟩
theorem ss_18 {C : Nat} {d : Pd} {pn : Option Addr} {cn i : Nat} {o oa ob oc od : Int} (w : World) (h7 : w.cell? ⟨C, 7, none⟩ = some (.slice pn d.n cn)) (hrow : RowI 0 w (.slice pn d.n cn) d.n d.N) (hgd : Gd w) (hi : i < d.n) (hn : d.n ≤ 1048576) (ho : 1 ≤ o ∧ o ≤ 42) (ha : d.N i = ⟨o, oa, ob, oc, od⟩) (h : o = 18) (h2 : ob = 12) :
  Calls Tryz.prog 173 #[.pointer (some ⟨C,0,none⟩),.int .i64 i] w fun e w'=>e = .returned (.agg #[.int .i64 (ssa (d.N i) i),.int .i64 (ssb (d.N i))])∧Kb 0 w w':=by
 have g0:(o == 18)=true:=beq1 h;have g1:(o == 1)=false:=bne (by omega);have g2:(o == 3)=false:=bne (by omega);have g3:(o == 28)=false:=bne (by omega);have g4:(ob == 12)=true:=beq1 h2;obtain ⟨pn',cn',ee,hr2⟩:=hrow;obtain ⟨rfl,rfl⟩:pn=pn'∧cn=cn':=by simpa using ee
 obtain ⟨p,rfl,hcp,-,hrb⟩:=hr2 (by omega);have hci:=hrb i hi;have iI:(i:Int) < (d.n:Int):=by omega
 have nI:(d.n:Int)≤1048576:=by omega
 obtain ⟨w1,hw1⟩:∃ w1,w1=w.alloc (.cells #[.int .i64 0,.int .i64 0] 235):=⟨_,rfl⟩
 obtain ⟨s0,hs0⟩:∃ s0,s0=w.heap.size:=⟨_,rfl⟩
 have k1:Kb 0 w w1:=by rw [hw1];exact kb_alloc _ _ _
 have hb1:w1.heap[s0]? = some (.cells #[.int .i64 0,.int .i64 0] 235 (0,0)):=by rw [hw1,hs0];exact alloc_new _ _ _
 have hz1:w1.heap.size=s0+1:=by rw [hw1,hs0];exact World.size_alloc _ _
 have c7:=k1.cell h7;obtain ⟨w3,hw3⟩:∃ w3,w3=w1.alloc (.cells #[.int .i64 o,.int .i64 oa,.int .i64 ob,.int .i64 oc,.int .i64 od] 84):=⟨_,rfl⟩
 obtain ⟨s1,hs1⟩:∃ s1,s1=w1.heap.size:=⟨_,rfl⟩
 have k3:Kb 0 w1 w3:=by rw [hw3];exact kb_alloc _ _ _
 have hb3:w3.heap[s1]? = some (.cells #[.int .i64 o,.int .i64 oa,.int .i64 ob,.int .i64 oc,.int .i64 od] 84 (0,0)):=by rw [hw3,hs1];exact alloc_new _ _ _
 have hb0:w3.heap[s0]? = some (.cells #[.int .i64 0,.int .i64 0] 235 (0,0)):=by rw [k3.block _ zq (by omega)];exact hb1
 rw [ha] at hci;obtain ⟨q0,q1,q2,q3,q4⟩:=CelI.keep (c:=0) hci zq k1;have y0:w3.cell? ⟨s1,0,none⟩=some (.int .i64 o):=cell_of hb3 rfl;have y1:w3.cell? ⟨s1,1,none⟩=some (.int .i64 oa):=cell_of hb3 rfl;have y2:w3.cell? ⟨s1,2,none⟩=some (.int .i64 ob):=cell_of hb3 rfl;have y3:w3.cell? ⟨s1,3,none⟩=some (.int .i64 oc):=cell_of hb3 rfl;have y4:w3.cell? ⟨s1,4,none⟩=some (.int .i64 od):=cell_of hb3 rfl;have HT:Hid (w3.heap[s0]? = some (.cells #[.int .i64 0,.int .i64 0] 235 (0,0))∧w.heap.size≤s0∧Kb 0 w w3∧Gd w3):=(⟨hb0,by omega,k1.trans k3,hgd.keep (k1.trans k3)⟩:_∧_)
 have HW1:Hid (w1 = _∧s0 = _):=⟨hw1,hs0⟩
 have HW3:Hid (w3 = _∧s1 = _):=⟨hw3,hs1⟩
 have HV:Hid (ssa (d.N i) i = -1∧ssb (d.N i) = -1):=by
  rw [ha];exact ⟨if_pos (.inl (.inr (.inr (.inr ⟨h,h2⟩)))),if_pos (.inr (.inr (.inr ⟨h,h2⟩)))⟩
 have HE:=im_ends o;clear hw1 hs0 k1 hb1 hz1 hw3 hs1 k3 hb3 hb0 hr2 hrb hci hcp ee hi hn ha hgd h7 h h2;go_enter Tryz.func173,Tryz.ntmps173;go_upto_region 1 with fail;rw [← (uh HW1).1,← (uh HW1).2];clear HW1;go_upto_region 2 with fail;rw [← (uh HW3).1,← (uh HW3).2];clear HW3;obtain ⟨hb0,hs,k03,hgd⟩:=(uh HT)
 have z0:w3.cell? ⟨s0,0,none⟩=some (.int .i64 0):=cell_of hb0 rfl;have z1:w3.cell? ⟨s0,1,none⟩=some (.int .i64 0):=cell_of hb0 rfl;have f0:w3.frozen? ⟨s0,0,none⟩=false:=frozen_of hb0;have f1:w3.frozen? ⟨s0,1,none⟩=false:=frozen_of hb0;have HS:Hid (w.heap.size≤s0∧Kb 0 w w3):=⟨hs,k03⟩
 have hs0:s0 < w3.heap.size:=(Array.getElem?_eq_some_iff.1 hb0).1;clear hb0 hs k03 hgd HE HT;go_wp2_with fail;refine bodyPost_ret (by simp [results,Tryz.results173,go_sem,set2_0 z0,set2_1 z1];rfl) rfl ?_;rw [(uh HV).1,(uh HV).2];exact ⟨rfl,(((uh HS).2.setCell _ (.inr (uh HS).1) _).setCell _ (.inr (uh HS).1) _)⟩
theorem ss_end {C : Nat} {d : Pd} {pn : Option Addr} {cn i : Nat} {o oa ob oc od : Int} (w : World) (h7 : w.cell? ⟨C, 7, none⟩ = some (.slice pn d.n cn)) (hrow : RowI 0 w (.slice pn d.n cn) d.n d.N) (hgd : Gd w) (hi : i < d.n) (hn : d.n ≤ 1048576) (ho : 1 ≤ o ∧ o ≤ 42) (ha : d.N i = ⟨o, oa, ob, oc, od⟩) (h : Ends o) :
  Calls Tryz.prog 173 #[.pointer (some ⟨C,0,none⟩),.int .i64 i] w fun e w'=>e = .returned (.agg #[.int .i64 (ssa (d.N i) i),.int .i64 (ssb (d.N i))])∧Kb 0 w w':=by
 have HEN:dc (Ends o)=true:=dc_t h;unfold Ends at h;have HNC:Hid (¬ (o=1∨o=3∨o=28∨(o=18∧ob=12))):=(by omega:¬ _)
 have g0:(o == 1)=false:=bne (by omega);have g1:(o == 3)=false:=bne (by omega);have g2:(o == 28)=false:=bne (by omega);have g3:(o == 18)=false:=bne (by omega);obtain ⟨pn',cn',ee,hr2⟩:=hrow;obtain ⟨rfl,rfl⟩:pn=pn'∧cn=cn':=by simpa using ee
 obtain ⟨p,rfl,hcp,-,hrb⟩:=hr2 (by omega);have hci:=hrb i hi;have iI:(i:Int) < (d.n:Int):=by omega
 have nI:(d.n:Int)≤1048576:=by omega
 obtain ⟨w1,hw1⟩:∃ w1,w1=w.alloc (.cells #[.int .i64 0,.int .i64 0] 235):=⟨_,rfl⟩
 obtain ⟨s0,hs0⟩:∃ s0,s0=w.heap.size:=⟨_,rfl⟩
 have k1:Kb 0 w w1:=by rw [hw1];exact kb_alloc _ _ _
 have hb1:w1.heap[s0]? = some (.cells #[.int .i64 0,.int .i64 0] 235 (0,0)):=by rw [hw1,hs0];exact alloc_new _ _ _
 have hz1:w1.heap.size=s0+1:=by rw [hw1,hs0];exact World.size_alloc _ _
 have c7:=k1.cell h7;obtain ⟨w3,hw3⟩:∃ w3,w3=w1.alloc (.cells #[.int .i64 o,.int .i64 oa,.int .i64 ob,.int .i64 oc,.int .i64 od] 84):=⟨_,rfl⟩
 obtain ⟨s1,hs1⟩:∃ s1,s1=w1.heap.size:=⟨_,rfl⟩
 have k3:Kb 0 w1 w3:=by rw [hw3];exact kb_alloc _ _ _
 have hb3:w3.heap[s1]? = some (.cells #[.int .i64 o,.int .i64 oa,.int .i64 ob,.int .i64 oc,.int .i64 od] 84 (0,0)):=by rw [hw3,hs1];exact alloc_new _ _ _
 have hb0:w3.heap[s0]? = some (.cells #[.int .i64 0,.int .i64 0] 235 (0,0)):=by rw [k3.block _ zq (by omega)];exact hb1
 rw [ha] at hci;obtain ⟨q0,q1,q2,q3,q4⟩:=CelI.keep (c:=0) hci zq k1;have y0:w3.cell? ⟨s1,0,none⟩=some (.int .i64 o):=cell_of hb3 rfl;have y1:w3.cell? ⟨s1,1,none⟩=some (.int .i64 oa):=cell_of hb3 rfl;have y2:w3.cell? ⟨s1,2,none⟩=some (.int .i64 ob):=cell_of hb3 rfl;have y3:w3.cell? ⟨s1,3,none⟩=some (.int .i64 oc):=cell_of hb3 rfl;have y4:w3.cell? ⟨s1,4,none⟩=some (.int .i64 od):=cell_of hb3 rfl;have HT:Hid (w3.heap[s0]? = some (.cells #[.int .i64 0,.int .i64 0] 235 (0,0))∧w.heap.size≤s0∧Kb 0 w w3∧Gd w3):=(⟨hb0,by omega,k1.trans k3,hgd.keep (k1.trans k3)⟩:_∧_)
 have HW1:Hid (w1 = _∧s0 = _):=⟨hw1,hs0⟩
 have HW3:Hid (w3 = _∧s1 = _):=⟨hw3,hs1⟩
 have HV:Hid (ssa (d.N i) i = -1∧ssb (d.N i)=tgi ⟨o,oa,ob,oc,od⟩):=by
  rw [ha];exact ⟨if_pos (.inr (.inl h)),if_neg HNC⟩
 have HE:=im_ends o;clear hw1 hs0 k1 hb1 hz1 hw3 hs1 k3 hb3 hb0 hr2 hrb hci hcp ee hi hn ha hgd h7 h;go_enter Tryz.func173,Tryz.ntmps173;go_upto_region 1 with fail;rw [← (uh HW1).1,← (uh HW1).2];clear HW1;go_upto_region 2 with fail;rw [← (uh HW3).1,← (uh HW3).2];clear HW3;obtain ⟨hb0,hs,k03,hgd⟩:=(uh HT)
 have z0:w3.cell? ⟨s0,0,none⟩=some (.int .i64 0):=cell_of hb0 rfl;have z1:w3.cell? ⟨s0,1,none⟩=some (.int .i64 0):=cell_of hb0 rfl;have f0:w3.frozen? ⟨s0,0,none⟩=false:=frozen_of hb0;have f1:w3.frozen? ⟨s0,1,none⟩=false:=frozen_of hb0;have HS:Hid (w.heap.size≤s0∧Kb 0 w w3):=⟨hs,k03⟩
 have hs0:s0 < w3.heap.size:=(Array.getElem?_eq_some_iff.1 hb0).1;have HTG:=im_target ⟨o,oa,ob,oc,od⟩ w3 hgd ho.1 ho.2;rw [HEN] at HE;have i1:(i:Int)+1 < 1048577:=by omega
 obtain ⟨tg,htg⟩:∃ tg,tg=tgi ⟨o,oa,ob,oc,od⟩:=⟨_,rfl⟩
 rw [← htg] at HTG;have HV2:Hid (tg=tgi ⟨o,oa,ob,oc,od⟩):=htg;clear hb0 hs k03 hgd HT htg ho;go_upto_region 6 with (go_at_call 120;refine (HE w3).mono ?_;rintro e w4 ⟨rfl,hw⟩;rw [hw];clear hw w4 HE);go_wp2_with (go_at_call 134;refine HTG.mono ?_;rintro e w4 ⟨rfl,k4⟩;have z0':=k4.cell z0;have z1':=k4.cell z1;have f0':w4.frozen? ⟨s0,0,none⟩=false:=(k4.frozen zq hs0).trans f0;have f1':w4.frozen? ⟨s0,1,none⟩=false:=(k4.frozen zq hs0).trans f1;have HK4:Hid (Kb 0 w3 w4):=k4;clear k4 HTG z0 z1 f0 f1 y0 y1 y2 y3 y4);refine bodyPost_ret (by simp [results,Tryz.results173,go_sem,set2_0 z0',set2_1 z1'];rfl) rfl ?_;rw [(uh HV).1,(uh HV).2];rw [← (uh HV2)];exact ⟨rfl,((((uh HS).2.trans HK4).setCell _ (.inr (uh HS).1) _).setCell _ (.inr (uh HS).1) _)⟩
theorem ss_41 {C : Nat} {d : Pd} {pn : Option Addr} {cn i : Nat} {o oa ob oc od : Int} (w : World) (h7 : w.cell? ⟨C, 7, none⟩ = some (.slice pn d.n cn)) (hrow : RowI 0 w (.slice pn d.n cn) d.n d.N) (hgd : Gd w) (hi : i < d.n) (hn : d.n ≤ 1048576) (ho : 1 ≤ o ∧ o ≤ 42) (ha : d.N i = ⟨o, oa, ob, oc, od⟩) (h : o = 41) :
  Calls Tryz.prog 173 #[.pointer (some ⟨C,0,none⟩),.int .i64 i] w fun e w'=>e = .returned (.agg #[.int .i64 (ssa (d.N i) i),.int .i64 (ssb (d.N i))])∧Kb 0 w w':=by
 have HEN:dc (Ends o)=false:=dc_f (by unfold Ends;omega);have HNC:Hid (¬ (o=1∨o=3∨o=28∨(o=18∧ob=12))):=(by omega:¬ _)
 have g0:(o == 1)=false:=bne (by omega);have g1:(o == 3)=false:=bne (by omega);have g2:(o == 28)=false:=bne (by omega);have g3:(o == 18)=false:=bne (by omega);have g4:(o == 41)=true:=beq1 h;obtain ⟨pn',cn',ee,hr2⟩:=hrow;obtain ⟨rfl,rfl⟩:pn=pn'∧cn=cn':=by simpa using ee
 obtain ⟨p,rfl,hcp,-,hrb⟩:=hr2 (by omega);have hci:=hrb i hi;have iI:(i:Int) < (d.n:Int):=by omega
 have nI:(d.n:Int)≤1048576:=by omega
 obtain ⟨w1,hw1⟩:∃ w1,w1=w.alloc (.cells #[.int .i64 0,.int .i64 0] 235):=⟨_,rfl⟩
 obtain ⟨s0,hs0⟩:∃ s0,s0=w.heap.size:=⟨_,rfl⟩
 have k1:Kb 0 w w1:=by rw [hw1];exact kb_alloc _ _ _
 have hb1:w1.heap[s0]? = some (.cells #[.int .i64 0,.int .i64 0] 235 (0,0)):=by rw [hw1,hs0];exact alloc_new _ _ _
 have hz1:w1.heap.size=s0+1:=by rw [hw1,hs0];exact World.size_alloc _ _
 have c7:=k1.cell h7;obtain ⟨w3,hw3⟩:∃ w3,w3=w1.alloc (.cells #[.int .i64 o,.int .i64 oa,.int .i64 ob,.int .i64 oc,.int .i64 od] 84):=⟨_,rfl⟩
 obtain ⟨s1,hs1⟩:∃ s1,s1=w1.heap.size:=⟨_,rfl⟩
 have k3:Kb 0 w1 w3:=by rw [hw3];exact kb_alloc _ _ _
 have hb3:w3.heap[s1]? = some (.cells #[.int .i64 o,.int .i64 oa,.int .i64 ob,.int .i64 oc,.int .i64 od] 84 (0,0)):=by rw [hw3,hs1];exact alloc_new _ _ _
 have hb0:w3.heap[s0]? = some (.cells #[.int .i64 0,.int .i64 0] 235 (0,0)):=by rw [k3.block _ zq (by omega)];exact hb1
 rw [ha] at hci;obtain ⟨q0,q1,q2,q3,q4⟩:=CelI.keep (c:=0) hci zq k1;have y0:w3.cell? ⟨s1,0,none⟩=some (.int .i64 o):=cell_of hb3 rfl;have y1:w3.cell? ⟨s1,1,none⟩=some (.int .i64 oa):=cell_of hb3 rfl;have y2:w3.cell? ⟨s1,2,none⟩=some (.int .i64 ob):=cell_of hb3 rfl;have y3:w3.cell? ⟨s1,3,none⟩=some (.int .i64 oc):=cell_of hb3 rfl;have y4:w3.cell? ⟨s1,4,none⟩=some (.int .i64 od):=cell_of hb3 rfl;have HT:Hid (w3.heap[s0]? = some (.cells #[.int .i64 0,.int .i64 0] 235 (0,0))∧w.heap.size≤s0∧Kb 0 w w3∧Gd w3):=(⟨hb0,by omega,k1.trans k3,hgd.keep (k1.trans k3)⟩:_∧_)
 have HW1:Hid (w1 = _∧s0 = _):=⟨hw1,hs0⟩
 have HW3:Hid (w3 = _∧s1 = _):=⟨hw3,hs1⟩
 have HV:Hid (ssa (d.N i) i = -1∧ssb (d.N i)=tgi ⟨o,oa,ob,oc,od⟩):=by
  rw [ha];exact ⟨if_pos (.inr (.inr h)),if_neg HNC⟩
 have HE:=im_ends o;clear hw1 hs0 k1 hb1 hz1 hw3 hs1 k3 hb3 hb0 hr2 hrb hci hcp ee hi hn ha hgd h7 h;go_enter Tryz.func173,Tryz.ntmps173;go_upto_region 1 with fail;rw [← (uh HW1).1,← (uh HW1).2];clear HW1;go_upto_region 2 with fail;rw [← (uh HW3).1,← (uh HW3).2];clear HW3;obtain ⟨hb0,hs,k03,hgd⟩:=(uh HT)
 have z0:w3.cell? ⟨s0,0,none⟩=some (.int .i64 0):=cell_of hb0 rfl;have z1:w3.cell? ⟨s0,1,none⟩=some (.int .i64 0):=cell_of hb0 rfl;have f0:w3.frozen? ⟨s0,0,none⟩=false:=frozen_of hb0;have f1:w3.frozen? ⟨s0,1,none⟩=false:=frozen_of hb0;have HS:Hid (w.heap.size≤s0∧Kb 0 w w3):=⟨hs,k03⟩
 have hs0:s0 < w3.heap.size:=(Array.getElem?_eq_some_iff.1 hb0).1;have HTG:=im_target ⟨o,oa,ob,oc,od⟩ w3 hgd ho.1 ho.2;rw [HEN] at HE;have i1:(i:Int)+1 < 1048577:=by omega
 obtain ⟨tg,htg⟩:∃ tg,tg=tgi ⟨o,oa,ob,oc,od⟩:=⟨_,rfl⟩
 rw [← htg] at HTG;have HV2:Hid (tg=tgi ⟨o,oa,ob,oc,od⟩):=htg;clear hb0 hs k03 hgd HT htg ho;go_upto_region 6 with (go_at_call 120;refine (HE w3).mono ?_;rintro e w4 ⟨rfl,hw⟩;rw [hw];clear hw w4 HE);go_wp2_with (go_at_call 134;refine HTG.mono ?_;rintro e w4 ⟨rfl,k4⟩;have z0':=k4.cell z0;have z1':=k4.cell z1;have f0':w4.frozen? ⟨s0,0,none⟩=false:=(k4.frozen zq hs0).trans f0;have f1':w4.frozen? ⟨s0,1,none⟩=false:=(k4.frozen zq hs0).trans f1;have HK4:Hid (Kb 0 w3 w4):=k4;clear k4 HTG z0 z1 f0 f1 y0 y1 y2 y3 y4);refine bodyPost_ret (by simp [results,Tryz.results173,go_sem,set2_0 z0',set2_1 z1'];rfl) rfl ?_;rw [(uh HV).1,(uh HV).2];rw [← (uh HV2)];exact ⟨rfl,((((uh HS).2.trans HK4).setCell _ (.inr (uh HS).1) _).setCell _ (.inr (uh HS).1) _)⟩
theorem ss_18n {C : Nat} {d : Pd} {pn : Option Addr} {cn i : Nat} {o oa ob oc od : Int} (w : World) (h7 : w.cell? ⟨C, 7, none⟩ = some (.slice pn d.n cn)) (hrow : RowI 0 w (.slice pn d.n cn) d.n d.N) (hgd : Gd w) (hi : i < d.n) (hn : d.n ≤ 1048576) (ho : 1 ≤ o ∧ o ≤ 42) (ha : d.N i = ⟨o, oa, ob, oc, od⟩) (h : o = 18) (h2 : ob ≠ 12) :
  Calls Tryz.prog 173 #[.pointer (some ⟨C,0,none⟩),.int .i64 i] w fun e w'=>e = .returned (.agg #[.int .i64 (ssa (d.N i) i),.int .i64 (ssb (d.N i))])∧Kb 0 w w':=by
 have HEN:dc (Ends o)=false:=dc_f (by unfold Ends;omega);have HNC:Hid (¬ (o=1∨o=3∨o=28∨(o=18∧ob=12))):=(by omega:¬ _)
 have HND:Hid (¬ ((o=1∨o=3∨o=28∨(o=18∧ob=12))∨(o=19∨o=29∨o=30)∨o=41)):=(by omega:¬ _)
 have g0:(o == 1)=false:=bne (by omega);have g1:(o == 3)=false:=bne (by omega);have g2:(o == 28)=false:=bne (by omega);have g3:(o == 18)=true:=beq1 h;have g4:(ob == 12)=false:=bne h2;have g5:(o == 41)=false:=bne (by omega);obtain ⟨pn',cn',ee,hr2⟩:=hrow;obtain ⟨rfl,rfl⟩:pn=pn'∧cn=cn':=by simpa using ee
 obtain ⟨p,rfl,hcp,-,hrb⟩:=hr2 (by omega);have hci:=hrb i hi;have iI:(i:Int) < (d.n:Int):=by omega
 have nI:(d.n:Int)≤1048576:=by omega
 obtain ⟨w1,hw1⟩:∃ w1,w1=w.alloc (.cells #[.int .i64 0,.int .i64 0] 235):=⟨_,rfl⟩
 obtain ⟨s0,hs0⟩:∃ s0,s0=w.heap.size:=⟨_,rfl⟩
 have k1:Kb 0 w w1:=by rw [hw1];exact kb_alloc _ _ _
 have hb1:w1.heap[s0]? = some (.cells #[.int .i64 0,.int .i64 0] 235 (0,0)):=by rw [hw1,hs0];exact alloc_new _ _ _
 have hz1:w1.heap.size=s0+1:=by rw [hw1,hs0];exact World.size_alloc _ _
 have c7:=k1.cell h7;obtain ⟨w3,hw3⟩:∃ w3,w3=w1.alloc (.cells #[.int .i64 o,.int .i64 oa,.int .i64 ob,.int .i64 oc,.int .i64 od] 84):=⟨_,rfl⟩
 obtain ⟨s1,hs1⟩:∃ s1,s1=w1.heap.size:=⟨_,rfl⟩
 have k3:Kb 0 w1 w3:=by rw [hw3];exact kb_alloc _ _ _
 have hb3:w3.heap[s1]? = some (.cells #[.int .i64 o,.int .i64 oa,.int .i64 ob,.int .i64 oc,.int .i64 od] 84 (0,0)):=by rw [hw3,hs1];exact alloc_new _ _ _
 have hb0:w3.heap[s0]? = some (.cells #[.int .i64 0,.int .i64 0] 235 (0,0)):=by rw [k3.block _ zq (by omega)];exact hb1
 rw [ha] at hci;obtain ⟨q0,q1,q2,q3,q4⟩:=CelI.keep (c:=0) hci zq k1;have y0:w3.cell? ⟨s1,0,none⟩=some (.int .i64 o):=cell_of hb3 rfl;have y1:w3.cell? ⟨s1,1,none⟩=some (.int .i64 oa):=cell_of hb3 rfl;have y2:w3.cell? ⟨s1,2,none⟩=some (.int .i64 ob):=cell_of hb3 rfl;have y3:w3.cell? ⟨s1,3,none⟩=some (.int .i64 oc):=cell_of hb3 rfl;have y4:w3.cell? ⟨s1,4,none⟩=some (.int .i64 od):=cell_of hb3 rfl;have HT:Hid (w3.heap[s0]? = some (.cells #[.int .i64 0,.int .i64 0] 235 (0,0))∧w.heap.size≤s0∧Kb 0 w w3∧Gd w3):=(⟨hb0,by omega,k1.trans k3,hgd.keep (k1.trans k3)⟩:_∧_)
 have HW1:Hid (w1 = _∧s0 = _):=⟨hw1,hs0⟩
 have HW3:Hid (w3 = _∧s1 = _):=⟨hw3,hs1⟩
 have HV:Hid (ssa (d.N i) i=(i:Int)+1∧ssb (d.N i)=tgi ⟨o,oa,ob,oc,od⟩):=by
  rw [ha];exact ⟨if_neg HND,if_neg HNC⟩
 have HE:=im_ends o;clear hw1 hs0 k1 hb1 hz1 hw3 hs1 k3 hb3 hb0 hr2 hrb hci hcp ee hi hn ha hgd h7 h h2;go_enter Tryz.func173,Tryz.ntmps173;go_upto_region 1 with fail;rw [← (uh HW1).1,← (uh HW1).2];clear HW1;go_upto_region 2 with fail;rw [← (uh HW3).1,← (uh HW3).2];clear HW3;obtain ⟨hb0,hs,k03,hgd⟩:=(uh HT)
 have z0:w3.cell? ⟨s0,0,none⟩=some (.int .i64 0):=cell_of hb0 rfl;have z1:w3.cell? ⟨s0,1,none⟩=some (.int .i64 0):=cell_of hb0 rfl;have f0:w3.frozen? ⟨s0,0,none⟩=false:=frozen_of hb0;have f1:w3.frozen? ⟨s0,1,none⟩=false:=frozen_of hb0;have HS:Hid (w.heap.size≤s0∧Kb 0 w w3):=⟨hs,k03⟩
 have hs0:s0 < w3.heap.size:=(Array.getElem?_eq_some_iff.1 hb0).1;have HTG:=im_target ⟨o,oa,ob,oc,od⟩ w3 hgd ho.1 ho.2;rw [HEN] at HE;have i1:(i:Int)+1 < 1048577:=by omega
 obtain ⟨tg,htg⟩:∃ tg,tg=tgi ⟨o,oa,ob,oc,od⟩:=⟨_,rfl⟩
 rw [← htg] at HTG;have HV2:Hid (tg=tgi ⟨o,oa,ob,oc,od⟩):=htg;clear hb0 hs k03 hgd HT htg ho;go_upto_region 7 with (go_at_call 120;refine (HE w3).mono ?_;rintro e w4 ⟨rfl,hw⟩;rw [hw];clear hw w4 HE);go_wp2_with (go_at_call 134;refine HTG.mono ?_;rintro e w4 ⟨rfl,k4⟩;have z0':=k4.cell z0;have z1':=k4.cell z1;have f0':w4.frozen? ⟨s0,0,none⟩=false:=(k4.frozen zq hs0).trans f0;have f1':w4.frozen? ⟨s0,1,none⟩=false:=(k4.frozen zq hs0).trans f1;have HK4:Hid (Kb 0 w3 w4):=k4;clear k4 HTG z0 z1 f0 f1 y0 y1 y2 y3 y4);refine bodyPost_ret (by simp [results,Tryz.results173,go_sem,set2_0 z0',set2_1 z1'];rfl) rfl ?_;rw [(uh HV).1,(uh HV).2];rw [← (uh HV2)];exact ⟨rfl,((((uh HS).2.trans HK4).setCell _ (.inr (uh HS).1) _).setCell _ (.inr (uh HS).1) _)⟩
theorem ss_else {C : Nat} {d : Pd} {pn : Option Addr} {cn i : Nat} {o oa ob oc od : Int} (w : World) (h7 : w.cell? ⟨C, 7, none⟩ = some (.slice pn d.n cn)) (hrow : RowI 0 w (.slice pn d.n cn) d.n d.N) (hgd : Gd w) (hi : i < d.n) (hn : d.n ≤ 1048576) (ho : 1 ≤ o ∧ o ≤ 42) (ha : d.N i = ⟨o, oa, ob, oc, od⟩) (h : o ≠ 1 ∧ o ≠ 3 ∧ o ≠ 28 ∧ o ≠ 18 ∧ o ≠ 41 ∧ o ≠ 19 ∧ o ≠ 29 ∧ o ≠ 30) :
  Calls Tryz.prog 173 #[.pointer (some ⟨C,0,none⟩),.int .i64 i] w fun e w'=>e = .returned (.agg #[.int .i64 (ssa (d.N i) i),.int .i64 (ssb (d.N i))])∧Kb 0 w w':=by
 have HEN:dc (Ends o)=false:=dc_f (by unfold Ends;omega);have HNC:Hid (¬ (o=1∨o=3∨o=28∨(o=18∧ob=12))):=(by omega:¬ _)
 have HND:Hid (¬ ((o=1∨o=3∨o=28∨(o=18∧ob=12))∨(o=19∨o=29∨o=30)∨o=41)):=(by omega:¬ _)
 have g0:(o == 1)=false:=bne (by omega);have g1:(o == 3)=false:=bne (by omega);have g2:(o == 28)=false:=bne (by omega);have g3:(o == 18)=false:=bne (by omega);have g4:(o == 41)=false:=bne (by omega);obtain ⟨pn',cn',ee,hr2⟩:=hrow;obtain ⟨rfl,rfl⟩:pn=pn'∧cn=cn':=by simpa using ee
 obtain ⟨p,rfl,hcp,-,hrb⟩:=hr2 (by omega);have hci:=hrb i hi;have iI:(i:Int) < (d.n:Int):=by omega
 have nI:(d.n:Int)≤1048576:=by omega
 obtain ⟨w1,hw1⟩:∃ w1,w1=w.alloc (.cells #[.int .i64 0,.int .i64 0] 235):=⟨_,rfl⟩
 obtain ⟨s0,hs0⟩:∃ s0,s0=w.heap.size:=⟨_,rfl⟩
 have k1:Kb 0 w w1:=by rw [hw1];exact kb_alloc _ _ _
 have hb1:w1.heap[s0]? = some (.cells #[.int .i64 0,.int .i64 0] 235 (0,0)):=by rw [hw1,hs0];exact alloc_new _ _ _
 have hz1:w1.heap.size=s0+1:=by rw [hw1,hs0];exact World.size_alloc _ _
 have c7:=k1.cell h7;obtain ⟨w3,hw3⟩:∃ w3,w3=w1.alloc (.cells #[.int .i64 o,.int .i64 oa,.int .i64 ob,.int .i64 oc,.int .i64 od] 84):=⟨_,rfl⟩
 obtain ⟨s1,hs1⟩:∃ s1,s1=w1.heap.size:=⟨_,rfl⟩
 have k3:Kb 0 w1 w3:=by rw [hw3];exact kb_alloc _ _ _
 have hb3:w3.heap[s1]? = some (.cells #[.int .i64 o,.int .i64 oa,.int .i64 ob,.int .i64 oc,.int .i64 od] 84 (0,0)):=by rw [hw3,hs1];exact alloc_new _ _ _
 have hb0:w3.heap[s0]? = some (.cells #[.int .i64 0,.int .i64 0] 235 (0,0)):=by rw [k3.block _ zq (by omega)];exact hb1
 rw [ha] at hci;obtain ⟨q0,q1,q2,q3,q4⟩:=CelI.keep (c:=0) hci zq k1;have y0:w3.cell? ⟨s1,0,none⟩=some (.int .i64 o):=cell_of hb3 rfl;have y1:w3.cell? ⟨s1,1,none⟩=some (.int .i64 oa):=cell_of hb3 rfl;have y2:w3.cell? ⟨s1,2,none⟩=some (.int .i64 ob):=cell_of hb3 rfl;have y3:w3.cell? ⟨s1,3,none⟩=some (.int .i64 oc):=cell_of hb3 rfl;have y4:w3.cell? ⟨s1,4,none⟩=some (.int .i64 od):=cell_of hb3 rfl;have HT:Hid (w3.heap[s0]? = some (.cells #[.int .i64 0,.int .i64 0] 235 (0,0))∧w.heap.size≤s0∧Kb 0 w w3∧Gd w3):=(⟨hb0,by omega,k1.trans k3,hgd.keep (k1.trans k3)⟩:_∧_)
 have HW1:Hid (w1 = _∧s0 = _):=⟨hw1,hs0⟩
 have HW3:Hid (w3 = _∧s1 = _):=⟨hw3,hs1⟩
 have HV:Hid (ssa (d.N i) i=(i:Int)+1∧ssb (d.N i)=tgi ⟨o,oa,ob,oc,od⟩):=by
  rw [ha];exact ⟨if_neg HND,if_neg HNC⟩
 have HE:=im_ends o;clear hw1 hs0 k1 hb1 hz1 hw3 hs1 k3 hb3 hb0 hr2 hrb hci hcp ee hi hn ha hgd h7 h;go_enter Tryz.func173,Tryz.ntmps173;go_upto_region 1 with fail;rw [← (uh HW1).1,← (uh HW1).2];clear HW1;go_upto_region 2 with fail;rw [← (uh HW3).1,← (uh HW3).2];clear HW3;obtain ⟨hb0,hs,k03,hgd⟩:=(uh HT)
 have z0:w3.cell? ⟨s0,0,none⟩=some (.int .i64 0):=cell_of hb0 rfl;have z1:w3.cell? ⟨s0,1,none⟩=some (.int .i64 0):=cell_of hb0 rfl;have f0:w3.frozen? ⟨s0,0,none⟩=false:=frozen_of hb0;have f1:w3.frozen? ⟨s0,1,none⟩=false:=frozen_of hb0;have HS:Hid (w.heap.size≤s0∧Kb 0 w w3):=⟨hs,k03⟩
 have hs0:s0 < w3.heap.size:=(Array.getElem?_eq_some_iff.1 hb0).1;have HTG:=im_target ⟨o,oa,ob,oc,od⟩ w3 hgd ho.1 ho.2;rw [HEN] at HE;have i1:(i:Int)+1 < 1048577:=by omega
 obtain ⟨tg,htg⟩:∃ tg,tg=tgi ⟨o,oa,ob,oc,od⟩:=⟨_,rfl⟩
 rw [← htg] at HTG;have HV2:Hid (tg=tgi ⟨o,oa,ob,oc,od⟩):=htg;clear hb0 hs k03 hgd HT htg ho;go_upto_region 7 with (go_at_call 120;refine (HE w3).mono ?_;rintro e w4 ⟨rfl,hw⟩;rw [hw];clear hw w4 HE);go_wp2_with (go_at_call 134;refine HTG.mono ?_;rintro e w4 ⟨rfl,k4⟩;have z0':=k4.cell z0;have z1':=k4.cell z1;have f0':w4.frozen? ⟨s0,0,none⟩=false:=(k4.frozen zq hs0).trans f0;have f1':w4.frozen? ⟨s0,1,none⟩=false:=(k4.frozen zq hs0).trans f1;have HK4:Hid (Kb 0 w3 w4):=k4;clear k4 HTG z0 z1 f0 f1 y0 y1 y2 y3 y4);refine bodyPost_ret (by simp [results,Tryz.results173,go_sem,set2_0 z0',set2_1 z1'];rfl) rfl ?_;rw [(uh HV).1,(uh HV).2];rw [← (uh HV2)];exact ⟨rfl,((((uh HS).2.trans HK4).setCell _ (.inr (uh HS).1) _).setCell _ (.inr (uh HS).1) _)⟩
theorem im_silent {C : Nat} {d : Pd} {pn : Option Addr} {cn i : Nat} (w : World) (h7 : w.cell? ⟨C, 7, none⟩ = some (.slice pn d.n cn)) (hrow : RowI 0 w (.slice pn d.n cn) d.n d.N) (hgd : Gd w) (hi : i < d.n) (hn : d.n ≤ 1048576) (ho : 1 ≤ (d.N i).o ∧ (d.N i).o ≤ 42) :
  Calls Tryz.prog 173 #[.pointer (some ⟨C,0,none⟩),.int .i64 i] w fun e w'=>e = .returned (.agg #[.int .i64 (ssa (d.N i) i),.int .i64 (ssb (d.N i))])∧Kb 0 w w':=by
 rcases hd:d.N i with ⟨o,oa,ob,oc,od⟩;rw [hd] at ho;rw [← hd];have ho' : 1≤o∧o≤42:=ho;by_cases h1:o=1
 ·exact ss_1 w h7 hrow hgd hi hn ho' hd h1
 by_cases h2:o=3
 ·exact ss_3 w h7 hrow hgd hi hn ho' hd h2
 by_cases h3:o=28
 ·exact ss_28 w h7 hrow hgd hi hn ho' hd h3
 by_cases h4:o=18
 ·by_cases h5:ob=12
  ·exact ss_18 w h7 hrow hgd hi hn ho' hd h4 h5
  ·exact ss_18n w h7 hrow hgd hi hn ho' hd h4 h5
 by_cases h6:o=41
 ·exact ss_41 w h7 hrow hgd hi hn ho' hd h6
 by_cases h7':Ends o
 ·exact ss_end w h7 hrow hgd hi hn ho' hd h7'
 unfold Ends at h7';exact ss_else w h7 hrow hgd hi hn ho' hd (by omega)
theorem tgi_eq (v:Iv):tgi v=if v.o=19∨v.o=31 then v.a else if v.o=20∨v.o=21∨v.o=38∨v.o=39∨v.o=41 then v.b else -1:=by
 unfold tgi tgt;by_cases h1:v.o=19∨v.o=31
 ·rw [if_pos h1,if_pos h1]
 ·rw [if_neg h1,if_neg h1];by_cases h2:v.o=20∨v.o=21∨v.o=38∨v.o=39∨v.o=41
  ·rw [if_pos h2,if_pos h2]
  ·rw [if_neg h2,if_neg h2]
theorem ss_iff {np:Nat} {d:Pd} {i:Nat} (h:Iok np d i) (hi:i < d.n):∀ y:Int,y ∈ slt (d.N i) i↔0≤y∧(y=ssa (d.N i) i∨y=ssb (d.N i)):=by
 intro y;have hr:=slt_rng h hi
 have key:(y ∈ slt (d.N i) i)∨y = -1↔(y=ssa (d.N i) i∨y=ssb (d.N i))∨y = -1:=by
  clear hr;generalize d.N i=v;rcases v with ⟨o,oa,ob,oc,od⟩;unfold slt ssa ssb cst Ends;rw [tgi_eq];simp only
  repeat' split
  all_goals first | (exfalso;omega) | skip
  all_goals simp
  all_goals omega
 constructor
 ·intro q;have:=hr y q;rcases key.1 (.inl q) with q2 | q2
  ·exact ⟨this.1,q2⟩
  ·omega
 ·rintro ⟨q1,q2⟩;rcases key.2 (.inl q2) with q3 | q3
  ·exact q3
  ·omega
