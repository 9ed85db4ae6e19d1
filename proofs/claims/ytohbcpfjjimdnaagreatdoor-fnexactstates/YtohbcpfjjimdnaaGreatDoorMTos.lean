import Derived.Test.YtohbcpfjjimdnaaGreatDoorMTor
set_option maxHeartbeats 8000000
namespace Go.Proofs.YtohbcpfjjimdnaaGreatDoor.Fo
open Go.ChangeShapes Go.WideShapes Go.ChangeAt Go.RowKit
set_option linter.unusedVariables false
set_option maxRecDepth 100000
variable {W:World}{s C cn i np n:Nat}{u vt vu:Value}{d:Pd}{pn:Option Addr}{o oa ob oc od:Int}{av:Nat->Prop}{T:List Int}{U:Nat->Bool × Int}
theorem set2_0(h:W.cell? ⟨s,0,none⟩=some u):∀x,(W.setCell ⟨s,0,none⟩ x).cell? ⟨s,0,none⟩=some x:=λx=>set_eq _ _ _ _ _ h
theorem set2_1(h:W.cell? ⟨s,1,none⟩=some u):∀x y,((W.setCell ⟨s,0,none⟩ x).setCell ⟨s,1,none⟩ y).cell? ⟨s,1,none⟩=some y:=λx y=>set_eq _ _ _ _ u (by rw[set_ne _ _ _ _ _ (by omega)];exact h)
open Classical in
def cst(v:Iv):Prop:=v.o=1\/v.o=3\/v.o=28\/(v.o=18/\v.b=12)
open Classical in
noncomputable def ssa(v:Iv)(i:Nat):Int:=if cst v\/Ends v.o\/v.o=41 then-1 else(i:Int)+1
open Classical in
noncomputable def ssb(v:Iv):Int:=if cst v then-1 else tgi v
theorem ss_1(w:World)(h7:w.cell? ⟨C,7,none⟩=some (.slice pn d.n cn))(hrow:RowI 0 w (.slice pn d.n cn) d.n d.N)(hgd:Gd w)(hi:i<d.n)(hn:d.n<=1048576)(ho:1<=o/\o<=42)(ha:d.N i=⟨o,oa,ob,oc,od⟩)(h:o=1):
  Calls Tryz.prog 125 #[.pointer (some ⟨C,0,none⟩),.int .i64 i] w λe w'=>e=.returned (.agg #[.int .i64 (ssa (d.N i) i),.int .i64 (ssb (d.N i))])/\Kb 0 w w':=by
 have g0:(o==1)=true:=beq1 h;obtain⟨pn',cn',ee,hr2⟩:=hrow;obtain⟨rfl,rfl⟩:pn=pn'/\cn=cn':=by simpa using ee
 obtain⟨p,rfl,hcp,-,hrb⟩:=hr2 (by omega);have hci:=hrb i hi;have iI:(i:Int)<(d.n:Int):=by omega
 have nI:(d.n:Int)<=1048576:=by omega
 obtain⟨w1,hw1⟩:∃w1,w1=w.alloc (.cells #[.int .i64 0,.int .i64 0] 185):=⟨_,rfl⟩
 obtain⟨s0,hs0⟩:∃s0,s0=w.heap.size:=⟨_,rfl⟩
 have k1:Kb 0 w w1:=by rw[hw1];exact kb_alloc _ _ _
 have hb1:w1.heap[s0]? =some (.cells #[.int .i64 0,.int .i64 0] 185 (0,0)):=by rw[hw1,hs0];exact alloc_new _ _ _
 have hz1:w1.heap.size=s0+1:=by rw[hw1,hs0];exact World.size_alloc _ _
 have c7:=k1.cell h7;obtain⟨w3,hw3⟩:∃w3,w3=w1.alloc (.cells #[.int .i64 o,.int .i64 oa,.int .i64 ob,.int .i64 oc,.int .i64 od] 79):=⟨_,rfl⟩
 obtain⟨s1,hs1⟩:∃s1,s1=w1.heap.size:=⟨_,rfl⟩
 have k3:Kb 0 w1 w3:=by rw[hw3];exact kb_alloc _ _ _
 have hb3:w3.heap[s1]? =some (.cells #[.int .i64 o,.int .i64 oa,.int .i64 ob,.int .i64 oc,.int .i64 od] 79 (0,0)):=by rw[hw3,hs1];exact alloc_new _ _ _
 have hb0:w3.heap[s0]? =some (.cells #[.int .i64 0,.int .i64 0] 185 (0,0)):=by rw[k3.block _ zq (by omega)];exact hb1
 rw[ha]at hci;obtain⟨q0,q1,q2,q3,q4⟩:=CelI.keep (c:=0) hci zq k1;have y0:w3.cell? ⟨s1,0,none⟩=some (.int .i64 o):=cell_of hb3 rfl;have y1:w3.cell? ⟨s1,1,none⟩=some (.int .i64 oa):=cell_of hb3 rfl;have y2:w3.cell? ⟨s1,2,none⟩=some (.int .i64 ob):=cell_of hb3 rfl;have y3:w3.cell? ⟨s1,3,none⟩=some (.int .i64 oc):=cell_of hb3 rfl;have y4:w3.cell? ⟨s1,4,none⟩=some (.int .i64 od):=cell_of hb3 rfl;have HT:Hid (w3.heap[s0]? =some (.cells #[.int .i64 0,.int .i64 0] 185 (0,0))/\w.heap.size<=s0/\Kb 0 w w3/\Gd w3):=(⟨hb0,by omega,k1.trans k3,hgd.keep (k1.trans k3)⟩:_/\_)
 have HW1:Hid (w1=_/\s0=_):=⟨hw1,hs0⟩
 have HW3:Hid (w3=_/\s1=_):=⟨hw3,hs1⟩
 have HV:Hid (ssa (d.N i) i=-1/\ssb (d.N i)=-1):=by
  rw[ha];exact⟨if_pos (.inl (.inl h)),if_pos (.inl h)⟩
 have HE:=im_ends o;clear hw1 hs0 k1 hb1 hz1 hw3 hs1 k3 hb3 hb0 hr2 hrb hci hcp ee hi hn ha hgd h7 h;go_enter Tryz.func125,Tryz.ntmps125;go_upto_region 1 with fail;rw[<-(uh HW1).1,<-(uh HW1).2];clear HW1;go_upto_region 2 with fail;rw[<-(uh HW3).1,<-(uh HW3).2];clear HW3;obtain⟨hb0,hs,k03,hgd⟩:=(uh HT)
 have z0:w3.cell? ⟨s0,0,none⟩=some (.int .i64 0):=cell_of hb0 rfl;have z1:w3.cell? ⟨s0,1,none⟩=some (.int .i64 0):=cell_of hb0 rfl;have f0:w3.frozen? ⟨s0,0,none⟩=false:=frozen_of hb0;have f1:w3.frozen? ⟨s0,1,none⟩=false:=frozen_of hb0;have HS:Hid (w.heap.size<=s0/\Kb 0 w w3):=⟨hs,k03⟩
 have hs0:s0<w3.heap.size:=(Array.getElem?_eq_some_iff.1 hb0).1;clear hb0 hs k03 hgd HE HT;go_wp2_with fail;refine bodyPost_ret (by simp[results,Tryz.results125,go_sem,set2_0 z0,set2_1 z1];rfl) rfl ?_;rw[(uh HV).1,(uh HV).2];exact⟨rfl,(((uh HS).2.setCell _ (.inr (uh HS).1) _).setCell _ (.inr (uh HS).1) _)⟩
theorem ss_3(w:World)(h7:w.cell? ⟨C,7,none⟩=some (.slice pn d.n cn))(hrow:RowI 0 w (.slice pn d.n cn) d.n d.N)(hgd:Gd w)(hi:i<d.n)(hn:d.n<=1048576)(ho:1<=o/\o<=42)(ha:d.N i=⟨o,oa,ob,oc,od⟩)(h:o=3):
  Calls Tryz.prog 125 #[.pointer (some ⟨C,0,none⟩),.int .i64 i] w λe w'=>e=.returned (.agg #[.int .i64 (ssa (d.N i) i),.int .i64 (ssb (d.N i))])/\Kb 0 w w':=by
 have g0:(o==3)=true:=beq1 h;have g1:(o==1)=false:=bne (by omega);obtain⟨pn',cn',ee,hr2⟩:=hrow;obtain⟨rfl,rfl⟩:pn=pn'/\cn=cn':=by simpa using ee
 obtain⟨p,rfl,hcp,-,hrb⟩:=hr2 (by omega);have hci:=hrb i hi;have iI:(i:Int)<(d.n:Int):=by omega
 have nI:(d.n:Int)<=1048576:=by omega
 obtain⟨w1,hw1⟩:∃w1,w1=w.alloc (.cells #[.int .i64 0,.int .i64 0] 185):=⟨_,rfl⟩
 obtain⟨s0,hs0⟩:∃s0,s0=w.heap.size:=⟨_,rfl⟩
 have k1:Kb 0 w w1:=by rw[hw1];exact kb_alloc _ _ _
 have hb1:w1.heap[s0]? =some (.cells #[.int .i64 0,.int .i64 0] 185 (0,0)):=by rw[hw1,hs0];exact alloc_new _ _ _
 have hz1:w1.heap.size=s0+1:=by rw[hw1,hs0];exact World.size_alloc _ _
 have c7:=k1.cell h7;obtain⟨w3,hw3⟩:∃w3,w3=w1.alloc (.cells #[.int .i64 o,.int .i64 oa,.int .i64 ob,.int .i64 oc,.int .i64 od] 79):=⟨_,rfl⟩
 obtain⟨s1,hs1⟩:∃s1,s1=w1.heap.size:=⟨_,rfl⟩
 have k3:Kb 0 w1 w3:=by rw[hw3];exact kb_alloc _ _ _
 have hb3:w3.heap[s1]? =some (.cells #[.int .i64 o,.int .i64 oa,.int .i64 ob,.int .i64 oc,.int .i64 od] 79 (0,0)):=by rw[hw3,hs1];exact alloc_new _ _ _
 have hb0:w3.heap[s0]? =some (.cells #[.int .i64 0,.int .i64 0] 185 (0,0)):=by rw[k3.block _ zq (by omega)];exact hb1
 rw[ha]at hci;obtain⟨q0,q1,q2,q3,q4⟩:=CelI.keep (c:=0) hci zq k1;have y0:w3.cell? ⟨s1,0,none⟩=some (.int .i64 o):=cell_of hb3 rfl;have y1:w3.cell? ⟨s1,1,none⟩=some (.int .i64 oa):=cell_of hb3 rfl;have y2:w3.cell? ⟨s1,2,none⟩=some (.int .i64 ob):=cell_of hb3 rfl;have y3:w3.cell? ⟨s1,3,none⟩=some (.int .i64 oc):=cell_of hb3 rfl;have y4:w3.cell? ⟨s1,4,none⟩=some (.int .i64 od):=cell_of hb3 rfl;have HT:Hid (w3.heap[s0]? =some (.cells #[.int .i64 0,.int .i64 0] 185 (0,0))/\w.heap.size<=s0/\Kb 0 w w3/\Gd w3):=(⟨hb0,by omega,k1.trans k3,hgd.keep (k1.trans k3)⟩:_/\_)
 have HW1:Hid (w1=_/\s0=_):=⟨hw1,hs0⟩
 have HW3:Hid (w3=_/\s1=_):=⟨hw3,hs1⟩
 have HV:Hid (ssa (d.N i) i=-1/\ssb (d.N i)=-1):=by
  rw[ha];exact⟨if_pos (.inl (.inr (.inl h))),if_pos (.inr (.inl h))⟩
 have HE:=im_ends o;clear hw1 hs0 k1 hb1 hz1 hw3 hs1 k3 hb3 hb0 hr2 hrb hci hcp ee hi hn ha hgd h7 h;go_enter Tryz.func125,Tryz.ntmps125;go_upto_region 1 with fail;rw[<-(uh HW1).1,<-(uh HW1).2];clear HW1;go_upto_region 2 with fail;rw[<-(uh HW3).1,<-(uh HW3).2];clear HW3;obtain⟨hb0,hs,k03,hgd⟩:=(uh HT)
 have z0:w3.cell? ⟨s0,0,none⟩=some (.int .i64 0):=cell_of hb0 rfl;have z1:w3.cell? ⟨s0,1,none⟩=some (.int .i64 0):=cell_of hb0 rfl;have f0:w3.frozen? ⟨s0,0,none⟩=false:=frozen_of hb0;have f1:w3.frozen? ⟨s0,1,none⟩=false:=frozen_of hb0;have HS:Hid (w.heap.size<=s0/\Kb 0 w w3):=⟨hs,k03⟩
 have hs0:s0<w3.heap.size:=(Array.getElem?_eq_some_iff.1 hb0).1;clear hb0 hs k03 hgd HE HT;go_wp2_with fail;refine bodyPost_ret (by simp[results,Tryz.results125,go_sem,set2_0 z0,set2_1 z1];rfl) rfl ?_;rw[(uh HV).1,(uh HV).2];exact⟨rfl,(((uh HS).2.setCell _ (.inr (uh HS).1) _).setCell _ (.inr (uh HS).1) _)⟩
theorem ss_28(w:World)(h7:w.cell? ⟨C,7,none⟩=some (.slice pn d.n cn))(hrow:RowI 0 w (.slice pn d.n cn) d.n d.N)(hgd:Gd w)(hi:i<d.n)(hn:d.n<=1048576)(ho:1<=o/\o<=42)(ha:d.N i=⟨o,oa,ob,oc,od⟩)(h:o=28):
  Calls Tryz.prog 125 #[.pointer (some ⟨C,0,none⟩),.int .i64 i] w λe w'=>e=.returned (.agg #[.int .i64 (ssa (d.N i) i),.int .i64 (ssb (d.N i))])/\Kb 0 w w':=by
 have g0:(o==28)=true:=beq1 h;have g1:(o==1)=false:=bne (by omega);have g2:(o==3)=false:=bne (by omega);obtain⟨pn',cn',ee,hr2⟩:=hrow;obtain⟨rfl,rfl⟩:pn=pn'/\cn=cn':=by simpa using ee
 obtain⟨p,rfl,hcp,-,hrb⟩:=hr2 (by omega);have hci:=hrb i hi;have iI:(i:Int)<(d.n:Int):=by omega
 have nI:(d.n:Int)<=1048576:=by omega
 obtain⟨w1,hw1⟩:∃w1,w1=w.alloc (.cells #[.int .i64 0,.int .i64 0] 185):=⟨_,rfl⟩
 obtain⟨s0,hs0⟩:∃s0,s0=w.heap.size:=⟨_,rfl⟩
 have k1:Kb 0 w w1:=by rw[hw1];exact kb_alloc _ _ _
 have hb1:w1.heap[s0]? =some (.cells #[.int .i64 0,.int .i64 0] 185 (0,0)):=by rw[hw1,hs0];exact alloc_new _ _ _
 have hz1:w1.heap.size=s0+1:=by rw[hw1,hs0];exact World.size_alloc _ _
 have c7:=k1.cell h7;obtain⟨w3,hw3⟩:∃w3,w3=w1.alloc (.cells #[.int .i64 o,.int .i64 oa,.int .i64 ob,.int .i64 oc,.int .i64 od] 79):=⟨_,rfl⟩
 obtain⟨s1,hs1⟩:∃s1,s1=w1.heap.size:=⟨_,rfl⟩
 have k3:Kb 0 w1 w3:=by rw[hw3];exact kb_alloc _ _ _
 have hb3:w3.heap[s1]? =some (.cells #[.int .i64 o,.int .i64 oa,.int .i64 ob,.int .i64 oc,.int .i64 od] 79 (0,0)):=by rw[hw3,hs1];exact alloc_new _ _ _
 have hb0:w3.heap[s0]? =some (.cells #[.int .i64 0,.int .i64 0] 185 (0,0)):=by rw[k3.block _ zq (by omega)];exact hb1
 rw[ha]at hci;obtain⟨q0,q1,q2,q3,q4⟩:=CelI.keep (c:=0) hci zq k1;have y0:w3.cell? ⟨s1,0,none⟩=some (.int .i64 o):=cell_of hb3 rfl;have y1:w3.cell? ⟨s1,1,none⟩=some (.int .i64 oa):=cell_of hb3 rfl;have y2:w3.cell? ⟨s1,2,none⟩=some (.int .i64 ob):=cell_of hb3 rfl;have y3:w3.cell? ⟨s1,3,none⟩=some (.int .i64 oc):=cell_of hb3 rfl;have y4:w3.cell? ⟨s1,4,none⟩=some (.int .i64 od):=cell_of hb3 rfl;have HT:Hid (w3.heap[s0]? =some (.cells #[.int .i64 0,.int .i64 0] 185 (0,0))/\w.heap.size<=s0/\Kb 0 w w3/\Gd w3):=(⟨hb0,by omega,k1.trans k3,hgd.keep (k1.trans k3)⟩:_/\_)
 have HW1:Hid (w1=_/\s0=_):=⟨hw1,hs0⟩
 have HW3:Hid (w3=_/\s1=_):=⟨hw3,hs1⟩
 have HV:Hid (ssa (d.N i) i=-1/\ssb (d.N i)=-1):=by
  rw[ha];exact⟨if_pos (.inl (.inr (.inr (.inl h)))),if_pos (.inr (.inr (.inl h)))⟩
 have HE:=im_ends o;clear hw1 hs0 k1 hb1 hz1 hw3 hs1 k3 hb3 hb0 hr2 hrb hci hcp ee hi hn ha hgd h7 h;go_enter Tryz.func125,Tryz.ntmps125;go_upto_region 1 with fail;rw[<-(uh HW1).1,<-(uh HW1).2];clear HW1;go_upto_region 2 with fail;rw[<-(uh HW3).1,<-(uh HW3).2];clear HW3;obtain⟨hb0,hs,k03,hgd⟩:=(uh HT)
 have z0:w3.cell? ⟨s0,0,none⟩=some (.int .i64 0):=cell_of hb0 rfl;have z1:w3.cell? ⟨s0,1,none⟩=some (.int .i64 0):=cell_of hb0 rfl;have f0:w3.frozen? ⟨s0,0,none⟩=false:=frozen_of hb0;have f1:w3.frozen? ⟨s0,1,none⟩=false:=frozen_of hb0;have HS:Hid (w.heap.size<=s0/\Kb 0 w w3):=⟨hs,k03⟩
 have hs0:s0<w3.heap.size:=(Array.getElem?_eq_some_iff.1 hb0).1;clear hb0 hs k03 hgd HE HT;go_wp2_with fail;refine bodyPost_ret (by simp[results,Tryz.results125,go_sem,set2_0 z0,set2_1 z1];rfl) rfl ?_;rw[(uh HV).1,(uh HV).2];exact⟨rfl,(((uh HS).2.setCell _ (.inr (uh HS).1) _).setCell _ (.inr (uh HS).1) _)⟩
theorem ss_18(w:World)(h7:w.cell? ⟨C,7,none⟩=some (.slice pn d.n cn))(hrow:RowI 0 w (.slice pn d.n cn) d.n d.N)(hgd:Gd w)(hi:i<d.n)(hn:d.n<=1048576)(ho:1<=o/\o<=42)(ha:d.N i=⟨o,oa,ob,oc,od⟩)(h:o=18)(h2:ob=12):
  Calls Tryz.prog 125 #[.pointer (some ⟨C,0,none⟩),.int .i64 i] w λe w'=>e=.returned (.agg #[.int .i64 (ssa (d.N i) i),.int .i64 (ssb (d.N i))])/\Kb 0 w w':=by
 have g0:(o==18)=true:=beq1 h;have g1:(o==1)=false:=bne (by omega);have g2:(o==3)=false:=bne (by omega);have g3:(o==28)=false:=bne (by omega);have g4:(ob==12)=true:=beq1 h2;obtain⟨pn',cn',ee,hr2⟩:=hrow;obtain⟨rfl,rfl⟩:pn=pn'/\cn=cn':=by simpa using ee
 obtain⟨p,rfl,hcp,-,hrb⟩:=hr2 (by omega);have hci:=hrb i hi;have iI:(i:Int)<(d.n:Int):=by omega
 have nI:(d.n:Int)<=1048576:=by omega
 obtain⟨w1,hw1⟩:∃w1,w1=w.alloc (.cells #[.int .i64 0,.int .i64 0] 185):=⟨_,rfl⟩
 obtain⟨s0,hs0⟩:∃s0,s0=w.heap.size:=⟨_,rfl⟩
 have k1:Kb 0 w w1:=by rw[hw1];exact kb_alloc _ _ _
 have hb1:w1.heap[s0]? =some (.cells #[.int .i64 0,.int .i64 0] 185 (0,0)):=by rw[hw1,hs0];exact alloc_new _ _ _
 have hz1:w1.heap.size=s0+1:=by rw[hw1,hs0];exact World.size_alloc _ _
 have c7:=k1.cell h7;obtain⟨w3,hw3⟩:∃w3,w3=w1.alloc (.cells #[.int .i64 o,.int .i64 oa,.int .i64 ob,.int .i64 oc,.int .i64 od] 79):=⟨_,rfl⟩
 obtain⟨s1,hs1⟩:∃s1,s1=w1.heap.size:=⟨_,rfl⟩
 have k3:Kb 0 w1 w3:=by rw[hw3];exact kb_alloc _ _ _
 have hb3:w3.heap[s1]? =some (.cells #[.int .i64 o,.int .i64 oa,.int .i64 ob,.int .i64 oc,.int .i64 od] 79 (0,0)):=by rw[hw3,hs1];exact alloc_new _ _ _
 have hb0:w3.heap[s0]? =some (.cells #[.int .i64 0,.int .i64 0] 185 (0,0)):=by rw[k3.block _ zq (by omega)];exact hb1
 rw[ha]at hci;obtain⟨q0,q1,q2,q3,q4⟩:=CelI.keep (c:=0) hci zq k1;have y0:w3.cell? ⟨s1,0,none⟩=some (.int .i64 o):=cell_of hb3 rfl;have y1:w3.cell? ⟨s1,1,none⟩=some (.int .i64 oa):=cell_of hb3 rfl;have y2:w3.cell? ⟨s1,2,none⟩=some (.int .i64 ob):=cell_of hb3 rfl;have y3:w3.cell? ⟨s1,3,none⟩=some (.int .i64 oc):=cell_of hb3 rfl;have y4:w3.cell? ⟨s1,4,none⟩=some (.int .i64 od):=cell_of hb3 rfl;have HT:Hid (w3.heap[s0]? =some (.cells #[.int .i64 0,.int .i64 0] 185 (0,0))/\w.heap.size<=s0/\Kb 0 w w3/\Gd w3):=(⟨hb0,by omega,k1.trans k3,hgd.keep (k1.trans k3)⟩:_/\_)
 have HW1:Hid (w1=_/\s0=_):=⟨hw1,hs0⟩
 have HW3:Hid (w3=_/\s1=_):=⟨hw3,hs1⟩
 have HV:Hid (ssa (d.N i) i=-1/\ssb (d.N i)=-1):=by
  rw[ha];exact⟨if_pos (.inl (.inr (.inr (.inr ⟨h,h2⟩)))),if_pos (.inr (.inr (.inr ⟨h,h2⟩)))⟩
 have HE:=im_ends o;clear hw1 hs0 k1 hb1 hz1 hw3 hs1 k3 hb3 hb0 hr2 hrb hci hcp ee hi hn ha hgd h7 h h2;go_enter Tryz.func125,Tryz.ntmps125;go_upto_region 1 with fail;rw[<-(uh HW1).1,<-(uh HW1).2];clear HW1;go_upto_region 2 with fail;rw[<-(uh HW3).1,<-(uh HW3).2];clear HW3;obtain⟨hb0,hs,k03,hgd⟩:=(uh HT)
 have z0:w3.cell? ⟨s0,0,none⟩=some (.int .i64 0):=cell_of hb0 rfl;have z1:w3.cell? ⟨s0,1,none⟩=some (.int .i64 0):=cell_of hb0 rfl;have f0:w3.frozen? ⟨s0,0,none⟩=false:=frozen_of hb0;have f1:w3.frozen? ⟨s0,1,none⟩=false:=frozen_of hb0;have HS:Hid (w.heap.size<=s0/\Kb 0 w w3):=⟨hs,k03⟩
 have hs0:s0<w3.heap.size:=(Array.getElem?_eq_some_iff.1 hb0).1;clear hb0 hs k03 hgd HE HT;go_wp2_with fail;refine bodyPost_ret (by simp[results,Tryz.results125,go_sem,set2_0 z0,set2_1 z1];rfl) rfl ?_;rw[(uh HV).1,(uh HV).2];exact⟨rfl,(((uh HS).2.setCell _ (.inr (uh HS).1) _).setCell _ (.inr (uh HS).1) _)⟩
theorem ss_end(w:World)(h7:w.cell? ⟨C,7,none⟩=some (.slice pn d.n cn))(hrow:RowI 0 w (.slice pn d.n cn) d.n d.N)(hgd:Gd w)(hi:i<d.n)(hn:d.n<=1048576)(ho:1<=o/\o<=42)(ha:d.N i=⟨o,oa,ob,oc,od⟩)(h:Ends o):
  Calls Tryz.prog 125 #[.pointer (some ⟨C,0,none⟩),.int .i64 i] w λe w'=>e=.returned (.agg #[.int .i64 (ssa (d.N i) i),.int .i64 (ssb (d.N i))])/\Kb 0 w w':=by
 have HEN:dc (Ends o)=true:=dc_t h;unfold Ends at h;have HNC:Hid (¬(o=1\/o=3\/o=28\/(o=18/\ob=12))):=(by omega:¬_)
 have g0:(o==1)=false:=bne (by omega);have g1:(o==3)=false:=bne (by omega);have g2:(o==28)=false:=bne (by omega);have g3:(o==18)=false:=bne (by omega);obtain⟨pn',cn',ee,hr2⟩:=hrow;obtain⟨rfl,rfl⟩:pn=pn'/\cn=cn':=by simpa using ee
 obtain⟨p,rfl,hcp,-,hrb⟩:=hr2 (by omega);have hci:=hrb i hi;have iI:(i:Int)<(d.n:Int):=by omega
 have nI:(d.n:Int)<=1048576:=by omega
 obtain⟨w1,hw1⟩:∃w1,w1=w.alloc (.cells #[.int .i64 0,.int .i64 0] 185):=⟨_,rfl⟩
 obtain⟨s0,hs0⟩:∃s0,s0=w.heap.size:=⟨_,rfl⟩
 have k1:Kb 0 w w1:=by rw[hw1];exact kb_alloc _ _ _
 have hb1:w1.heap[s0]? =some (.cells #[.int .i64 0,.int .i64 0] 185 (0,0)):=by rw[hw1,hs0];exact alloc_new _ _ _
 have hz1:w1.heap.size=s0+1:=by rw[hw1,hs0];exact World.size_alloc _ _
 have c7:=k1.cell h7;obtain⟨w3,hw3⟩:∃w3,w3=w1.alloc (.cells #[.int .i64 o,.int .i64 oa,.int .i64 ob,.int .i64 oc,.int .i64 od] 79):=⟨_,rfl⟩
 obtain⟨s1,hs1⟩:∃s1,s1=w1.heap.size:=⟨_,rfl⟩
 have k3:Kb 0 w1 w3:=by rw[hw3];exact kb_alloc _ _ _
 have hb3:w3.heap[s1]? =some (.cells #[.int .i64 o,.int .i64 oa,.int .i64 ob,.int .i64 oc,.int .i64 od] 79 (0,0)):=by rw[hw3,hs1];exact alloc_new _ _ _
 have hb0:w3.heap[s0]? =some (.cells #[.int .i64 0,.int .i64 0] 185 (0,0)):=by rw[k3.block _ zq (by omega)];exact hb1
 rw[ha]at hci;obtain⟨q0,q1,q2,q3,q4⟩:=CelI.keep (c:=0) hci zq k1;have y0:w3.cell? ⟨s1,0,none⟩=some (.int .i64 o):=cell_of hb3 rfl;have y1:w3.cell? ⟨s1,1,none⟩=some (.int .i64 oa):=cell_of hb3 rfl;have y2:w3.cell? ⟨s1,2,none⟩=some (.int .i64 ob):=cell_of hb3 rfl;have y3:w3.cell? ⟨s1,3,none⟩=some (.int .i64 oc):=cell_of hb3 rfl;have y4:w3.cell? ⟨s1,4,none⟩=some (.int .i64 od):=cell_of hb3 rfl;have HT:Hid (w3.heap[s0]? =some (.cells #[.int .i64 0,.int .i64 0] 185 (0,0))/\w.heap.size<=s0/\Kb 0 w w3/\Gd w3):=(⟨hb0,by omega,k1.trans k3,hgd.keep (k1.trans k3)⟩:_/\_)
 have HW1:Hid (w1=_/\s0=_):=⟨hw1,hs0⟩
 have HW3:Hid (w3=_/\s1=_):=⟨hw3,hs1⟩
 have HV:Hid (ssa (d.N i) i=-1/\ssb (d.N i)=tgi ⟨o,oa,ob,oc,od⟩):=by
  rw[ha];exact⟨if_pos (.inr (.inl h)),if_neg HNC⟩
 have HE:=im_ends o;clear hw1 hs0 k1 hb1 hz1 hw3 hs1 k3 hb3 hb0 hr2 hrb hci hcp ee hi hn ha hgd h7 h;go_enter Tryz.func125,Tryz.ntmps125;go_upto_region 1 with fail;rw[<-(uh HW1).1,<-(uh HW1).2];clear HW1;go_upto_region 2 with fail;rw[<-(uh HW3).1,<-(uh HW3).2];clear HW3;obtain⟨hb0,hs,k03,hgd⟩:=(uh HT)
 have z0:w3.cell? ⟨s0,0,none⟩=some (.int .i64 0):=cell_of hb0 rfl;have z1:w3.cell? ⟨s0,1,none⟩=some (.int .i64 0):=cell_of hb0 rfl;have f0:w3.frozen? ⟨s0,0,none⟩=false:=frozen_of hb0;have f1:w3.frozen? ⟨s0,1,none⟩=false:=frozen_of hb0;have HS:Hid (w.heap.size<=s0/\Kb 0 w w3):=⟨hs,k03⟩
 have hs0:s0<w3.heap.size:=(Array.getElem?_eq_some_iff.1 hb0).1;have HTG:=im_target ⟨o,oa,ob,oc,od⟩ w3 hgd ho.1 ho.2;rw[HEN]at HE;have i1:(i:Int)+1<1048577:=by omega
 obtain⟨tg,htg⟩:∃tg,tg=tgi ⟨o,oa,ob,oc,od⟩:=⟨_,rfl⟩
 rw[<-htg]at HTG;have HV2:Hid (tg=tgi ⟨o,oa,ob,oc,od⟩):=htg;clear hb0 hs k03 hgd HT htg ho;go_upto_region 6 with(go_at_call 87;refine(HE w3).mono ?_;rintro e w4 ⟨rfl,hw⟩;rw[hw];clear hw w4 HE);go_wp2_with (go_at_call 88;refine HTG.mono ?_;rintro e w4 ⟨rfl,k4⟩;have z0':=k4.cell z0;have z1':=k4.cell z1;have f0':w4.frozen? ⟨s0,0,none⟩=false:=(k4.frozen zq hs0).trans f0;have f1':w4.frozen? ⟨s0,1,none⟩=false:=(k4.frozen zq hs0).trans f1;have HK4:Hid (Kb 0 w3 w4):=k4;clear k4 HTG z0 z1 f0 f1 y0 y1 y2 y3 y4);refine bodyPost_ret (by simp[results,Tryz.results125,go_sem,set2_0 z0',set2_1 z1'];rfl) rfl ?_;rw[(uh HV).1,(uh HV).2];rw[<-(uh HV2)];exact⟨rfl,((((uh HS).2.trans HK4).setCell _ (.inr (uh HS).1) _).setCell _ (.inr (uh HS).1) _)⟩
theorem ss_41(w:World)(h7:w.cell? ⟨C,7,none⟩=some (.slice pn d.n cn))(hrow:RowI 0 w (.slice pn d.n cn) d.n d.N)(hgd:Gd w)(hi:i<d.n)(hn:d.n<=1048576)(ho:1<=o/\o<=42)(ha:d.N i=⟨o,oa,ob,oc,od⟩)(h:o=41):
  Calls Tryz.prog 125 #[.pointer (some ⟨C,0,none⟩),.int .i64 i] w λe w'=>e=.returned (.agg #[.int .i64 (ssa (d.N i) i),.int .i64 (ssb (d.N i))])/\Kb 0 w w':=by
 have HEN:dc (Ends o)=false:=dc_f (by unfold Ends;omega);have HNC:Hid (¬(o=1\/o=3\/o=28\/(o=18/\ob=12))):=(by omega:¬_)
 have g0:(o==1)=false:=bne (by omega);have g1:(o==3)=false:=bne (by omega);have g2:(o==28)=false:=bne (by omega);have g3:(o==18)=false:=bne (by omega);have g4:(o==41)=true:=beq1 h;obtain⟨pn',cn',ee,hr2⟩:=hrow;obtain⟨rfl,rfl⟩:pn=pn'/\cn=cn':=by simpa using ee
 obtain⟨p,rfl,hcp,-,hrb⟩:=hr2 (by omega);have hci:=hrb i hi;have iI:(i:Int)<(d.n:Int):=by omega
 have nI:(d.n:Int)<=1048576:=by omega
 obtain⟨w1,hw1⟩:∃w1,w1=w.alloc (.cells #[.int .i64 0,.int .i64 0] 185):=⟨_,rfl⟩
 obtain⟨s0,hs0⟩:∃s0,s0=w.heap.size:=⟨_,rfl⟩
 have k1:Kb 0 w w1:=by rw[hw1];exact kb_alloc _ _ _
 have hb1:w1.heap[s0]? =some (.cells #[.int .i64 0,.int .i64 0] 185 (0,0)):=by rw[hw1,hs0];exact alloc_new _ _ _
 have hz1:w1.heap.size=s0+1:=by rw[hw1,hs0];exact World.size_alloc _ _
 have c7:=k1.cell h7;obtain⟨w3,hw3⟩:∃w3,w3=w1.alloc (.cells #[.int .i64 o,.int .i64 oa,.int .i64 ob,.int .i64 oc,.int .i64 od] 79):=⟨_,rfl⟩
 obtain⟨s1,hs1⟩:∃s1,s1=w1.heap.size:=⟨_,rfl⟩
 have k3:Kb 0 w1 w3:=by rw[hw3];exact kb_alloc _ _ _
 have hb3:w3.heap[s1]? =some (.cells #[.int .i64 o,.int .i64 oa,.int .i64 ob,.int .i64 oc,.int .i64 od] 79 (0,0)):=by rw[hw3,hs1];exact alloc_new _ _ _
 have hb0:w3.heap[s0]? =some (.cells #[.int .i64 0,.int .i64 0] 185 (0,0)):=by rw[k3.block _ zq (by omega)];exact hb1
 rw[ha]at hci;obtain⟨q0,q1,q2,q3,q4⟩:=CelI.keep (c:=0) hci zq k1;have y0:w3.cell? ⟨s1,0,none⟩=some (.int .i64 o):=cell_of hb3 rfl;have y1:w3.cell? ⟨s1,1,none⟩=some (.int .i64 oa):=cell_of hb3 rfl;have y2:w3.cell? ⟨s1,2,none⟩=some (.int .i64 ob):=cell_of hb3 rfl;have y3:w3.cell? ⟨s1,3,none⟩=some (.int .i64 oc):=cell_of hb3 rfl;have y4:w3.cell? ⟨s1,4,none⟩=some (.int .i64 od):=cell_of hb3 rfl;have HT:Hid (w3.heap[s0]? =some (.cells #[.int .i64 0,.int .i64 0] 185 (0,0))/\w.heap.size<=s0/\Kb 0 w w3/\Gd w3):=(⟨hb0,by omega,k1.trans k3,hgd.keep (k1.trans k3)⟩:_/\_)
 have HW1:Hid (w1=_/\s0=_):=⟨hw1,hs0⟩
 have HW3:Hid (w3=_/\s1=_):=⟨hw3,hs1⟩
 have HV:Hid (ssa (d.N i) i=-1/\ssb (d.N i)=tgi ⟨o,oa,ob,oc,od⟩):=by
  rw[ha];exact⟨if_pos (.inr (.inr h)),if_neg HNC⟩
 have HE:=im_ends o;clear hw1 hs0 k1 hb1 hz1 hw3 hs1 k3 hb3 hb0 hr2 hrb hci hcp ee hi hn ha hgd h7 h;go_enter Tryz.func125,Tryz.ntmps125;go_upto_region 1 with fail;rw[<-(uh HW1).1,<-(uh HW1).2];clear HW1;go_upto_region 2 with fail;rw[<-(uh HW3).1,<-(uh HW3).2];clear HW3;obtain⟨hb0,hs,k03,hgd⟩:=(uh HT)
 have z0:w3.cell? ⟨s0,0,none⟩=some (.int .i64 0):=cell_of hb0 rfl;have z1:w3.cell? ⟨s0,1,none⟩=some (.int .i64 0):=cell_of hb0 rfl;have f0:w3.frozen? ⟨s0,0,none⟩=false:=frozen_of hb0;have f1:w3.frozen? ⟨s0,1,none⟩=false:=frozen_of hb0;have HS:Hid (w.heap.size<=s0/\Kb 0 w w3):=⟨hs,k03⟩
 have hs0:s0<w3.heap.size:=(Array.getElem?_eq_some_iff.1 hb0).1;have HTG:=im_target ⟨o,oa,ob,oc,od⟩ w3 hgd ho.1 ho.2;rw[HEN]at HE;have i1:(i:Int)+1<1048577:=by omega
 obtain⟨tg,htg⟩:∃tg,tg=tgi ⟨o,oa,ob,oc,od⟩:=⟨_,rfl⟩
 rw[<-htg]at HTG;have HV2:Hid (tg=tgi ⟨o,oa,ob,oc,od⟩):=htg;clear hb0 hs k03 hgd HT htg ho;go_upto_region 6 with(go_at_call 87;refine(HE w3).mono ?_;rintro e w4 ⟨rfl,hw⟩;rw[hw];clear hw w4 HE);go_wp2_with (go_at_call 88;refine HTG.mono ?_;rintro e w4 ⟨rfl,k4⟩;have z0':=k4.cell z0;have z1':=k4.cell z1;have f0':w4.frozen? ⟨s0,0,none⟩=false:=(k4.frozen zq hs0).trans f0;have f1':w4.frozen? ⟨s0,1,none⟩=false:=(k4.frozen zq hs0).trans f1;have HK4:Hid (Kb 0 w3 w4):=k4;clear k4 HTG z0 z1 f0 f1 y0 y1 y2 y3 y4);refine bodyPost_ret (by simp[results,Tryz.results125,go_sem,set2_0 z0',set2_1 z1'];rfl) rfl ?_;rw[(uh HV).1,(uh HV).2];rw[<-(uh HV2)];exact⟨rfl,((((uh HS).2.trans HK4).setCell _ (.inr (uh HS).1) _).setCell _ (.inr (uh HS).1) _)⟩
theorem ss_18n(w:World)(h7:w.cell? ⟨C,7,none⟩=some (.slice pn d.n cn))(hrow:RowI 0 w (.slice pn d.n cn) d.n d.N)(hgd:Gd w)(hi:i<d.n)(hn:d.n<=1048576)(ho:1<=o/\o<=42)(ha:d.N i=⟨o,oa,ob,oc,od⟩)(h:o=18)(h2:ob≠12):
  Calls Tryz.prog 125 #[.pointer (some ⟨C,0,none⟩),.int .i64 i] w λe w'=>e=.returned (.agg #[.int .i64 (ssa (d.N i) i),.int .i64 (ssb (d.N i))])/\Kb 0 w w':=by
 have HEN:dc (Ends o)=false:=dc_f (by unfold Ends;omega);have HNC:Hid (¬(o=1\/o=3\/o=28\/(o=18/\ob=12))):=(by omega:¬_)
 have HND:Hid (¬((o=1\/o=3\/o=28\/(o=18/\ob=12))\/(o=19\/o=29\/o=30)\/o=41)):=(by omega:¬_)
 have g0:(o==1)=false:=bne (by omega);have g1:(o==3)=false:=bne (by omega);have g2:(o==28)=false:=bne (by omega);have g3:(o==18)=true:=beq1 h;have g4:(ob==12)=false:=bne h2;have g5:(o==41)=false:=bne (by omega);obtain⟨pn',cn',ee,hr2⟩:=hrow;obtain⟨rfl,rfl⟩:pn=pn'/\cn=cn':=by simpa using ee
 obtain⟨p,rfl,hcp,-,hrb⟩:=hr2 (by omega);have hci:=hrb i hi;have iI:(i:Int)<(d.n:Int):=by omega
 have nI:(d.n:Int)<=1048576:=by omega
 obtain⟨w1,hw1⟩:∃w1,w1=w.alloc (.cells #[.int .i64 0,.int .i64 0] 185):=⟨_,rfl⟩
 obtain⟨s0,hs0⟩:∃s0,s0=w.heap.size:=⟨_,rfl⟩
 have k1:Kb 0 w w1:=by rw[hw1];exact kb_alloc _ _ _
 have hb1:w1.heap[s0]? =some (.cells #[.int .i64 0,.int .i64 0] 185 (0,0)):=by rw[hw1,hs0];exact alloc_new _ _ _
 have hz1:w1.heap.size=s0+1:=by rw[hw1,hs0];exact World.size_alloc _ _
 have c7:=k1.cell h7;obtain⟨w3,hw3⟩:∃w3,w3=w1.alloc (.cells #[.int .i64 o,.int .i64 oa,.int .i64 ob,.int .i64 oc,.int .i64 od] 79):=⟨_,rfl⟩
 obtain⟨s1,hs1⟩:∃s1,s1=w1.heap.size:=⟨_,rfl⟩
 have k3:Kb 0 w1 w3:=by rw[hw3];exact kb_alloc _ _ _
 have hb3:w3.heap[s1]? =some (.cells #[.int .i64 o,.int .i64 oa,.int .i64 ob,.int .i64 oc,.int .i64 od] 79 (0,0)):=by rw[hw3,hs1];exact alloc_new _ _ _
 have hb0:w3.heap[s0]? =some (.cells #[.int .i64 0,.int .i64 0] 185 (0,0)):=by rw[k3.block _ zq (by omega)];exact hb1
 rw[ha]at hci;obtain⟨q0,q1,q2,q3,q4⟩:=CelI.keep (c:=0) hci zq k1;have y0:w3.cell? ⟨s1,0,none⟩=some (.int .i64 o):=cell_of hb3 rfl;have y1:w3.cell? ⟨s1,1,none⟩=some (.int .i64 oa):=cell_of hb3 rfl;have y2:w3.cell? ⟨s1,2,none⟩=some (.int .i64 ob):=cell_of hb3 rfl;have y3:w3.cell? ⟨s1,3,none⟩=some (.int .i64 oc):=cell_of hb3 rfl;have y4:w3.cell? ⟨s1,4,none⟩=some (.int .i64 od):=cell_of hb3 rfl;have HT:Hid (w3.heap[s0]? =some (.cells #[.int .i64 0,.int .i64 0] 185 (0,0))/\w.heap.size<=s0/\Kb 0 w w3/\Gd w3):=(⟨hb0,by omega,k1.trans k3,hgd.keep (k1.trans k3)⟩:_/\_)
 have HW1:Hid (w1=_/\s0=_):=⟨hw1,hs0⟩
 have HW3:Hid (w3=_/\s1=_):=⟨hw3,hs1⟩
 have HV:Hid (ssa (d.N i) i=(i:Int)+1/\ssb (d.N i)=tgi ⟨o,oa,ob,oc,od⟩):=by
  rw[ha];exact⟨if_neg HND,if_neg HNC⟩
 have HE:=im_ends o;clear hw1 hs0 k1 hb1 hz1 hw3 hs1 k3 hb3 hb0 hr2 hrb hci hcp ee hi hn ha hgd h7 h h2;go_enter Tryz.func125,Tryz.ntmps125;go_upto_region 1 with fail;rw[<-(uh HW1).1,<-(uh HW1).2];clear HW1;go_upto_region 2 with fail;rw[<-(uh HW3).1,<-(uh HW3).2];clear HW3;obtain⟨hb0,hs,k03,hgd⟩:=(uh HT)
 have z0:w3.cell? ⟨s0,0,none⟩=some (.int .i64 0):=cell_of hb0 rfl;have z1:w3.cell? ⟨s0,1,none⟩=some (.int .i64 0):=cell_of hb0 rfl;have f0:w3.frozen? ⟨s0,0,none⟩=false:=frozen_of hb0;have f1:w3.frozen? ⟨s0,1,none⟩=false:=frozen_of hb0;have HS:Hid (w.heap.size<=s0/\Kb 0 w w3):=⟨hs,k03⟩
 have hs0:s0<w3.heap.size:=(Array.getElem?_eq_some_iff.1 hb0).1;have HTG:=im_target ⟨o,oa,ob,oc,od⟩ w3 hgd ho.1 ho.2;rw[HEN]at HE;have i1:(i:Int)+1<1048577:=by omega
 obtain⟨tg,htg⟩:∃tg,tg=tgi ⟨o,oa,ob,oc,od⟩:=⟨_,rfl⟩
 rw[<-htg]at HTG;have HV2:Hid (tg=tgi ⟨o,oa,ob,oc,od⟩):=htg;clear hb0 hs k03 hgd HT htg ho;go_upto_region 7 with(go_at_call 87;refine(HE w3).mono ?_;rintro e w4 ⟨rfl,hw⟩;rw[hw];clear hw w4 HE);go_wp2_with (go_at_call 88;refine HTG.mono ?_;rintro e w4 ⟨rfl,k4⟩;have z0':=k4.cell z0;have z1':=k4.cell z1;have f0':w4.frozen? ⟨s0,0,none⟩=false:=(k4.frozen zq hs0).trans f0;have f1':w4.frozen? ⟨s0,1,none⟩=false:=(k4.frozen zq hs0).trans f1;have HK4:Hid (Kb 0 w3 w4):=k4;clear k4 HTG z0 z1 f0 f1 y0 y1 y2 y3 y4);refine bodyPost_ret (by simp[results,Tryz.results125,go_sem,set2_0 z0',set2_1 z1'];rfl) rfl ?_;rw[(uh HV).1,(uh HV).2];rw[<-(uh HV2)];exact⟨rfl,((((uh HS).2.trans HK4).setCell _ (.inr (uh HS).1) _).setCell _ (.inr (uh HS).1) _)⟩
theorem ss_else(w:World)(h7:w.cell? ⟨C,7,none⟩=some (.slice pn d.n cn))(hrow:RowI 0 w (.slice pn d.n cn) d.n d.N)(hgd:Gd w)(hi:i<d.n)(hn:d.n<=1048576)(ho:1<=o/\o<=42)(ha:d.N i=⟨o,oa,ob,oc,od⟩)(h:o≠1/\o≠3/\o≠28/\o≠18/\o≠41/\o≠19/\o≠29/\o≠30):
  Calls Tryz.prog 125 #[.pointer (some ⟨C,0,none⟩),.int .i64 i] w λe w'=>e=.returned (.agg #[.int .i64 (ssa (d.N i) i),.int .i64 (ssb (d.N i))])/\Kb 0 w w':=by
 have HEN:dc (Ends o)=false:=dc_f (by unfold Ends;omega);have HNC:Hid (¬(o=1\/o=3\/o=28\/(o=18/\ob=12))):=(by omega:¬_)
 have HND:Hid (¬((o=1\/o=3\/o=28\/(o=18/\ob=12))\/(o=19\/o=29\/o=30)\/o=41)):=(by omega:¬_)
 have g0:(o==1)=false:=bne (by omega);have g1:(o==3)=false:=bne (by omega);have g2:(o==28)=false:=bne (by omega);have g3:(o==18)=false:=bne (by omega);have g4:(o==41)=false:=bne (by omega);obtain⟨pn',cn',ee,hr2⟩:=hrow;obtain⟨rfl,rfl⟩:pn=pn'/\cn=cn':=by simpa using ee
 obtain⟨p,rfl,hcp,-,hrb⟩:=hr2 (by omega);have hci:=hrb i hi;have iI:(i:Int)<(d.n:Int):=by omega
 have nI:(d.n:Int)<=1048576:=by omega
 obtain⟨w1,hw1⟩:∃w1,w1=w.alloc (.cells #[.int .i64 0,.int .i64 0] 185):=⟨_,rfl⟩
 obtain⟨s0,hs0⟩:∃s0,s0=w.heap.size:=⟨_,rfl⟩
 have k1:Kb 0 w w1:=by rw[hw1];exact kb_alloc _ _ _
 have hb1:w1.heap[s0]? =some (.cells #[.int .i64 0,.int .i64 0] 185 (0,0)):=by rw[hw1,hs0];exact alloc_new _ _ _
 have hz1:w1.heap.size=s0+1:=by rw[hw1,hs0];exact World.size_alloc _ _
 have c7:=k1.cell h7;obtain⟨w3,hw3⟩:∃w3,w3=w1.alloc (.cells #[.int .i64 o,.int .i64 oa,.int .i64 ob,.int .i64 oc,.int .i64 od] 79):=⟨_,rfl⟩
 obtain⟨s1,hs1⟩:∃s1,s1=w1.heap.size:=⟨_,rfl⟩
 have k3:Kb 0 w1 w3:=by rw[hw3];exact kb_alloc _ _ _
 have hb3:w3.heap[s1]? =some (.cells #[.int .i64 o,.int .i64 oa,.int .i64 ob,.int .i64 oc,.int .i64 od] 79 (0,0)):=by rw[hw3,hs1];exact alloc_new _ _ _
 have hb0:w3.heap[s0]? =some (.cells #[.int .i64 0,.int .i64 0] 185 (0,0)):=by rw[k3.block _ zq (by omega)];exact hb1
 rw[ha]at hci;obtain⟨q0,q1,q2,q3,q4⟩:=CelI.keep (c:=0) hci zq k1;have y0:w3.cell? ⟨s1,0,none⟩=some (.int .i64 o):=cell_of hb3 rfl;have y1:w3.cell? ⟨s1,1,none⟩=some (.int .i64 oa):=cell_of hb3 rfl;have y2:w3.cell? ⟨s1,2,none⟩=some (.int .i64 ob):=cell_of hb3 rfl;have y3:w3.cell? ⟨s1,3,none⟩=some (.int .i64 oc):=cell_of hb3 rfl;have y4:w3.cell? ⟨s1,4,none⟩=some (.int .i64 od):=cell_of hb3 rfl;have HT:Hid (w3.heap[s0]? =some (.cells #[.int .i64 0,.int .i64 0] 185 (0,0))/\w.heap.size<=s0/\Kb 0 w w3/\Gd w3):=(⟨hb0,by omega,k1.trans k3,hgd.keep (k1.trans k3)⟩:_/\_)
 have HW1:Hid (w1=_/\s0=_):=⟨hw1,hs0⟩
 have HW3:Hid (w3=_/\s1=_):=⟨hw3,hs1⟩
 have HV:Hid (ssa (d.N i) i=(i:Int)+1/\ssb (d.N i)=tgi ⟨o,oa,ob,oc,od⟩):=by
  rw[ha];exact⟨if_neg HND,if_neg HNC⟩
 have HE:=im_ends o;clear hw1 hs0 k1 hb1 hz1 hw3 hs1 k3 hb3 hb0 hr2 hrb hci hcp ee hi hn ha hgd h7 h;go_enter Tryz.func125,Tryz.ntmps125;go_upto_region 1 with fail;rw[<-(uh HW1).1,<-(uh HW1).2];clear HW1;go_upto_region 2 with fail;rw[<-(uh HW3).1,<-(uh HW3).2];clear HW3;obtain⟨hb0,hs,k03,hgd⟩:=(uh HT)
 have z0:w3.cell? ⟨s0,0,none⟩=some (.int .i64 0):=cell_of hb0 rfl;have z1:w3.cell? ⟨s0,1,none⟩=some (.int .i64 0):=cell_of hb0 rfl;have f0:w3.frozen? ⟨s0,0,none⟩=false:=frozen_of hb0;have f1:w3.frozen? ⟨s0,1,none⟩=false:=frozen_of hb0;have HS:Hid (w.heap.size<=s0/\Kb 0 w w3):=⟨hs,k03⟩
 have hs0:s0<w3.heap.size:=(Array.getElem?_eq_some_iff.1 hb0).1;have HTG:=im_target ⟨o,oa,ob,oc,od⟩ w3 hgd ho.1 ho.2;rw[HEN]at HE;have i1:(i:Int)+1<1048577:=by omega
 obtain⟨tg,htg⟩:∃tg,tg=tgi ⟨o,oa,ob,oc,od⟩:=⟨_,rfl⟩
 rw[<-htg]at HTG;have HV2:Hid (tg=tgi ⟨o,oa,ob,oc,od⟩):=htg;clear hb0 hs k03 hgd HT htg ho;go_upto_region 7 with(go_at_call 87;refine(HE w3).mono ?_;rintro e w4 ⟨rfl,hw⟩;rw[hw];clear hw w4 HE);go_wp2_with (go_at_call 88;refine HTG.mono ?_;rintro e w4 ⟨rfl,k4⟩;have z0':=k4.cell z0;have z1':=k4.cell z1;have f0':w4.frozen? ⟨s0,0,none⟩=false:=(k4.frozen zq hs0).trans f0;have f1':w4.frozen? ⟨s0,1,none⟩=false:=(k4.frozen zq hs0).trans f1;have HK4:Hid (Kb 0 w3 w4):=k4;clear k4 HTG z0 z1 f0 f1 y0 y1 y2 y3 y4);refine bodyPost_ret (by simp[results,Tryz.results125,go_sem,set2_0 z0',set2_1 z1'];rfl) rfl ?_;rw[(uh HV).1,(uh HV).2];rw[<-(uh HV2)];exact⟨rfl,((((uh HS).2.trans HK4).setCell _ (.inr (uh HS).1) _).setCell _ (.inr (uh HS).1) _)⟩
theorem im_silent(w:World)(h7:w.cell? ⟨C,7,none⟩=some (.slice pn d.n cn))(hrow:RowI 0 w (.slice pn d.n cn) d.n d.N)(hgd:Gd w)(hi:i<d.n)(hn:d.n<=1048576)(ho:1<=(d.N i).o/\(d.N i).o<=42):
  Calls Tryz.prog 125 #[.pointer (some ⟨C,0,none⟩),.int .i64 i] w λe w'=>e=.returned (.agg #[.int .i64 (ssa (d.N i) i),.int .i64 (ssb (d.N i))])/\Kb 0 w w':=by
 rcases hd:d.N i with⟨o,oa,ob,oc,od⟩;rw[hd]at ho;rw[<-hd];have ho':1<=o/\o<=42:=ho;by_cases h1:o=1
 ·exact ss_1 w h7 hrow hgd hi hn ho' hd h1
 by_cases h2:o=3
 ·exact ss_3 w h7 hrow hgd hi hn ho' hd h2
 by_cases h3:o=28
 ·exact ss_28 w h7 hrow hgd hi hn ho' hd h3
 by_cases h4:o=18
 ·by_cases h5:ob=12
  ·exact ss_18 w h7 hrow hgd hi hn ho' hd h4 h5
  ·exact ss_18n w h7 hrow hgd hi hn ho' hd h4 h5
 by_cases h6:o=41
 ·exact ss_41 w h7 hrow hgd hi hn ho' hd h6
 by_cases h7':Ends o
 ·exact ss_end w h7 hrow hgd hi hn ho' hd h7'
 unfold Ends at h7';exact ss_else w h7 hrow hgd hi hn ho' hd (by omega)
theorem tgi_eq(v:Iv):tgi v=if v.o=19\/v.o=31 then v.a else if v.o=20\/v.o=21\/v.o=38\/v.o=39\/v.o=41 then v.b else-1:=by
 unfold tgi tgt;by_cases h1:v.o=19\/v.o=31
 ·rw[if_pos h1,if_pos h1]
 ·rw[if_neg h1,if_neg h1];by_cases h2:v.o=20\/v.o=21\/v.o=38\/v.o=39\/v.o=41
  ·rw[if_pos h2,if_pos h2]
  ·rw[if_neg h2,if_neg h2]
theorem ss_iff(h:Iok np d i)(hi:i<d.n):∀y:Int,y ∈ slt (d.N i) i↔0<=y/\(y=ssa (d.N i) i\/y=ssb (d.N i)):=by
 intro y;have hr:=slt_rng h hi
 have key:(y ∈ slt (d.N i) i)\/y=-1↔(y=ssa (d.N i) i\/y=ssb (d.N i))\/y=-1:=by
  clear hr;generalize d.N i=v;rcases v with⟨o,oa,ob,oc,od⟩;unfold slt ssa ssb cst Ends;rw[tgi_eq];simp only
  repeat' split
  all_goals first|(exfalso;omega)|skip
  all_goals simp
  all_goals omega
 constructor
 ·intro q;have:=hr y q;rcases key.1 (.inl q)with q2|q2
  ·exact⟨this.1,q2⟩
  ·omega
 ·rintro⟨q1,q2⟩;rcases key.2 (.inl q2)with q3|q3
  ·exact q3
  ·omega
def nbx(T:List Int)(u:Bool×Int):Prop:=u.1=true/\T.getD u.2.toNat 0≠2
theorem im_nbx(l:Bool)(x:Int)(B:Nat)(w:World)(hB:w.cell? ⟨B,0,none⟩=some vt)(hT:Rz av w vt T)(hn:T.length<=250)(hx:l=true->0<=x/\x<(T.length:Int)):
  Calls Tryz.prog 118 #[.agg #[.bool l,.int .i64 x],.pointer (some ⟨B,0,none⟩)] w λe w'=>e=.returned (.bool (dc (nbx T (l,x))))/\Kb 0 w w':=by
 obtain⟨R,hR⟩:∃R,R=dc (nbx T (l,x)):=⟨_,rfl⟩
 rw[<-hR];have k1:Kb 0 w (w.alloc (.cells #[.bool l,.int .i64 x] 115)):=kb_alloc _ _ _;cases l
 ·rw[dc_f (by unfold nbx;simp)]at hR;subst hR;clear hx hT hB hn;go_enter Tryz.func118,Tryz.ntmps118;go_wp2_with fail;go_ret;exact⟨by first|rfl|simp,k1⟩
 ·obtain⟨k,rfl⟩:∃k:Nat,x=(k:Int):=⟨x.toNat,by have:=hx rfl;omega⟩
  have hk:k<T.length:=by have:=hx rfl;omega
  obtain⟨pt,ct,rfl,-,ra⟩:=hT;obtain⟨a,rfl,-,ra2⟩:=ra (by omega);obtain⟨y,hy⟩:∃y,T[k]? =some y:=⟨_,List.getElem?_eq_getElem hk⟩
  have s1:=ra2 k y hy;have hD:T.getD k 0=y:=by rw[List.getD_eq_getElem?_getD,hy];rfl
  have kI:(k:Int)<(T.length:Int):=by omega
  have TI:(T.length:Int)<=250:=by omega
  obtain⟨w1,hw1⟩:∃w1,w1=w.alloc (.cells #[.bool true,.int .i64 k] 115):=⟨_,rfl⟩
  obtain⟨s0,hs0⟩:∃s0,s0=w.heap.size:=⟨_,rfl⟩
  rw[<-hw1]at k1;have hb1:w1.heap[s0]? =some (.cells #[.bool true,.int .i64 k] 115 (0,0)):=by rw[hw1,hs0];exact alloc_new _ _ _
  have c0:w1.cell? ⟨s0,0,none⟩=some (.bool true):=cell_of hb1 rfl;have c1:w1.cell? ⟨s0,1,none⟩=some (.int .i64 k):=cell_of hb1 rfl;have cB:=k1.cell hB;have s1':=k1.cell s1;have HK:Hid (Kb 0 w w1):=k1;have HW:Hid (w1=_/\s0=_):=⟨hw1,hs0⟩
  have hRR:R=dc (y≠2):=by rw[hR];exact dc_iff ⟨λq=>by have:=q.2;rw[show((true,(k:Int)):Bool×Int).2.toNat=k from rfl,hD]at this;exact this,λq=>⟨rfl,by rw[show((true,(k:Int)):Bool×Int).2.toNat=k from rfl,hD];exact q⟩⟩
  clear hR hw1 hs0 hb1 k1 hB s1 hD hy ra ra2 hx hn hk;by_cases e:y=2
  ·have g:(y==2)=true:=beq1 e;rw[dc_f (by simpa using e)]at hRR;subst hRR;clear e;go_enter Tryz.func118,Tryz.ntmps118;go_upto_region 1 with fail;rw[<-(uh HW).1,<-(uh HW).2];clear HW;go_wp2_with fail;go_ret;exact⟨by simp;simpa using g,HK⟩
  ·have g:(y==2)=false:=bne e;rw[dc_t e]at hRR;subst hRR;go_enter Tryz.func118,Tryz.ntmps118;go_upto_region 1 with fail;rw[<-(uh HW).1,<-(uh HW).2];clear HW;go_wp2_with fail;go_ret;exact⟨by simp;exact e,HK⟩
theorem en_nbx:∀args w,(callFunc 118 args).run Tryz.prog w=.ok (.enter 118 args) w:=enters_of Tryz.func118 (by kernel_rfl) rfl
theorem im_ixnbx(B:Nat)(w:World)(hu:RowU 0 w vu n U)(hn:n<=250)(hB:w.cell? ⟨B,0,none⟩=some vt)(hT:Rz av w vt T)(hnT:T.length<=250)(hx:∀j,j<n->(U j).1=true->0<=(U j).2/\(U j).2<(T.length:Int)):
  Calls Tryz.prog 140 #[vu,.func (.func 118) #[] #[.pointer (some ⟨B,0,none⟩)]] w λe w'=>∃r:Int,e=.returned (.int .i64 r)/\(0<=r↔∃j,j<n/\nbx T (U j))/\Kb 0 w w':=by
 obtain⟨pa,ca,rfl,a1⟩:=hu;have HA:Hid (0<n->∃a:Addr,pa=some a/\n<=ca/\0<=a.block/\∀i,i<n->UpC 0 w (a.add (i*2)) (U i)):=a1;have n1:(n:Int)<=250:=by omega
 have eg:=en_nbx;have HCB:Hid (∀j,j<n->∀W,Kb 0 w W->Calls Tryz.prog 118 #[.agg #[.bool (U j).1,.int .i64 (U j).2],.pointer (some ⟨B,0,none⟩)] W λe w'=>e=.returned (.bool (dc (nbx T (U j))))/\Kb 0 W w'):=(λj hj W kk=>im_nbx (U j).1 (U j).2 B W (kk.cell hB) (hT.kb kk) hnT (hx j hj):∀j,_)
 clear a1 hn hB hT hnT hx;go_enter Tryz.func140,Tryz.ntmps140;go_wp2_with fail
 go_loopw [8] (λsl wr=>∃i:Nat,sl=.int .i64 i/\i<=n/\Hid (Kb 0 w wr)/\Hid (∀j,j<i->¬nbx T (U j))) (λsl _=>n-(intOf sl).toNat)
 case atStart=>exact⟨0,rfl,Nat.zero_le _,Kb.refl _ _,(λj h=>by omega:∀j,_)⟩
 case round=>
  rename World=>w2
  obtain⟨i,rfl,hi,HK,HX⟩:=hrel;have hX:=(uh HX)
  clear HX;rcases Nat.lt_or_ge i n with h|h
  ·have hI:(i:Int)<(n:Int):=by omega
   obtain⟨a,rfl,-,-,ra⟩:=(uh HA) (by omega)
   obtain⟨s1,s2⟩:=(ra i h).keep zq HK;have hcall:=(uh HCB) i h w2 HK;by_cases e:nbx T (U i)
   ·rw[dc_t e]at hcall;have HZ:Hid (0<=(i:Int)↔∃j,j<n/\nbx T (U j)):=(⟨λ_=>⟨i,h,e⟩,λ_=>by omega⟩:_↔_)
    clear hX ra e HA HCB;go_wp2_with (go_at_fn 118;refine hcall.mono ?_;rintro e w' ⟨rfl,hk'⟩;have HK':Hid (Kb 0 w2 w'):=hk';clear hk' hcall);go_ret;exact⟨_,rfl,HZ,(uh HK).trans HK'⟩
   ·rw[dc_f e]at hcall
    have HN:Hid (∀j,j<i+1->¬nbx T (U j)):=(λj hj=>by
     by_cases ej:j=i
     ·subst ej;exact e
     ·exact hX j (by omega):∀j,_)
    clear hX ra e HA;go_wp2_with (go_at_fn 118;refine hcall.mono ?_;rintro e w' ⟨rfl,hk'⟩;have HK':Hid (Kb 0 w2 w'):=hk';clear hk' hcall);go_roundw
    case rel=>exact⟨i+1,by go_num,by omega,(uh HK).trans HK',HN⟩
    case measure=>simp[intOf];omega
  ·have hI:¬(i:Int)<(n:Int):=by omega
   have HZ:Hid (0<=(-1:Int)↔∃j,j<n/\nbx T (U j)):=(⟨λq=>by omega,λ⟨j,q1,q2⟩=>(hX j (by omega) q2).elim⟩:_↔_)
   clear hX HA HCB;go_wp2_with fail;go_ret;exact⟨_,rfl,HZ,HK⟩
theorem im_ctnbx(B:Nat)(w:World)(hu:RowU 0 w vu n U)(hn:n<=250)(hB:w.cell? ⟨B,0,none⟩=some vt)(hT:Rz av w vt T)(hnT:T.length<=250)(hx:∀j,j<n->(U j).1=true->0<=(U j).2/\(U j).2<(T.length:Int)):
  Calls Tryz.prog 117 #[vu,.func (.func 118) #[] #[.pointer (some ⟨B,0,none⟩)]] w λe w'=>e=.returned (.bool (dc (∃j,j<n/\nbx T (U j))))/\Kb 0 w w':=by
 have HI:=im_ixnbx B w hu hn hB hT hnT hx;obtain⟨pa,ca,rfl,-⟩:=hu;obtain⟨R,hR⟩:∃R,R=dc (∃j,j<n/\nbx T (U j)):=⟨_,rfl⟩
 rw[<-hR];clear hn hB hT hnT hx;go_enter Tryz.func117,Tryz.ntmps117;go_wp2_with fail;refine HI.mono ?_;rintro e w2 ⟨r,rfl,hr,hk⟩;have HK:Hid (Kb 0 w w2):=hk;by_cases c:∃j,j<n/\nbx T (U j)
 ·have g:=hr.2 c;rw[dc_t c]at hR;subst hR;clear hr HI c hk;go_wp2_with fail;go_ret;exact⟨by first|rfl|simp|simp[g],HK⟩
 ·have g:¬0<=r:=λq=>c (hr.1 q);rw[dc_f c]at hR;subst hR;clear hr HI c hk;go_wp2_with fail;go_ret;exact⟨by first|rfl|(simp;omega),HK⟩
theorem im_boxes{F:Nat->Pd}{v:Iv}{vp:Value}(w:World)(h9:w.cell? ⟨C,9,none⟩=some vp)(hp:RowP 0 w vp np F)(hnp:np<=1048576)(hT:Rz av w vt T)(hnT:T.length<=250)(hx:v.o=11->(0<=v.b/\v.b<(np:Int))/\(F v.b.toNat).u<=250/\∀j,j<(F v.b.toNat).u->((F v.b.toNat).U j).1=true->0<=((F v.b.toNat).U j).2/\((F v.b.toNat).U j).2<(T.length:Int)):
  Calls Tryz.prog 81 #[.pointer (some ⟨C,0,none⟩),.agg #[.int .i64 v.o,.int .i64 v.a,.int .i64 v.b,.int .i64 v.c,.int .i64 v.d],vt] w λe w'=>e=.returned (.bool (dc (bx F v T)))/\Kb 0 w w':=by
 obtain⟨R,hR⟩:∃R,R=dc (bx F v T):=⟨_,rfl⟩
 rw[<-hR];obtain⟨pt,ct,rfl,-,-⟩:=id hT;obtain⟨w2,hw2⟩:∃w2,w2=((w.alloc (.cells #[.int .i64 v.o,.int .i64 v.a,.int .i64 v.b,.int .i64 v.c,.int .i64 v.d] 79)).alloc (.cells #[.slice pt T.length ct] 53)):=⟨_,rfl⟩
 obtain⟨s0,hs0⟩:∃s0,s0=w.heap.size:=⟨_,rfl⟩
 obtain⟨t0,t1,ts,k2⟩:=two_new' w _ _ _ _ w2 hw2;rw[<-hs0]at t0 t1;have d0:w2.cell? ⟨s0,0,none⟩=some (.int .i64 v.o):=cell_of t0 rfl;have d2:w2.cell? ⟨s0,2,none⟩=some (.int .i64 v.b):=cell_of t0 rfl;have d5:w2.cell? ⟨s0+1,0,none⟩=some (.slice pt T.length ct):=cell_of t1 rfl;have HW:Hid (w2=_/\s0=_):=⟨hw2,hs0⟩
 have HK2:Hid (Kb 0 w w2):=k2;clear hw2 hs0 t0 t1 ts;by_cases h11:v.o=11
 ·have g:(v.o !=11)=false:=by simpa using h11
  obtain⟨hb,hu,hj⟩:=hx h11;obtain⟨kb,hkb⟩:∃kb:Nat,v.b=(kb:Int):=⟨v.b.toNat,by omega⟩
  obtain⟨pp,cp,rfl,rp⟩:=hp;obtain⟨a,rfl,hcp,-,rp2⟩:=rp (by omega);obtain⟨vu,vc,vn,vd,hcel,hru,-,-,-⟩:=rp2 kb (by omega);rw[show v.b.toNat=kb from by omega]at hu hj;have e5:=k2.cellA zq hcel.c5;have e9:=k2.cell h9;have hru2:=hru.keep k2;have hT2:=hT.kb k2;obtain⟨pu,cu,rfl,-⟩:=id hru;have bI:(kb:Int)<(np:Int):=by omega
  have nI:(np:Int)<=1048576:=by omega
  rw[hkb]at d2;obtain⟨B,hB⟩:∃B,B=s0+1:=⟨_,rfl⟩
  rw[<-hB]at d5
  have CC:∀p:KW w2,Calls Tryz.prog 117 #[.slice pu (F kb).u cu,.func (.func 118) #[] #[.pointer (some ⟨B,0,none⟩)]] p.w λe w'=>e=.returned (.bool (dc (∃j,j<(F kb).u/\nbx T ((F kb).U j))))/\∃q:KW w2,w'=q.w:=(λp=>by
   refine(im_ctnbx B p.w (hru2.keep p.k) hu (p.k.cell d5) (hT2.kb p.k) hnT hj).mono ?_;rintro e w' ⟨rfl,k'⟩
   exact⟨rfl,⟨w',p.k.trans k'⟩,rfl⟩)
  have p9:∀p:KW w2,p.w.cell? ⟨C,9,none⟩=some (.slice (some a) np cp):=λp=>p.k.cell e9;have p2:∀p:KW w2,p.w.cell? ⟨s0,2,none⟩=some (.int .i64 kb):=λp=>p.k.cell d2;have p5:∀p:KW w2,p.w.cell? ⟨(a.add (kb*9)).block,(a.add (kb*9)).off+5,none⟩=some (.slice pu (F kb).u cu):=λp=>p.k.cellA zq e5;have hne:Nonempty (KW w2):=⟨⟨w2,Kb.refl _ _⟩⟩
  have hRR:R= !dc (∃j,j<(F kb).u/\nbx T ((F kb).U j)):=by
   rw[hR];by_cases c:∃j,j<(F kb).u/\nbx T ((F kb).U j)
   ·rw[dc_t c];refine dc_f (λq=>?_);obtain⟨j,q1,q2,q3⟩:=c;have:=q h11;rw[show v.b.toNat=kb from by omega]at this;exact q3 (this j q1 q2)
   ·rw[dc_f c];refine dc_t (λ_=>?_);rw[show v.b.toNat=kb from by omega];intro j q1 q2;apply Classical.byContradiction;intro q3;exact c ⟨j,q1,q2,q3⟩
  obtain⟨Y,hY⟩:∃Y,Y=dc (∃j,j<(F kb).u/\nbx T ((F kb).U j)):=⟨_,rfl⟩
  rw[<-hY]at CC hRR;subst hRR;have HB:Hid (B=s0+1):=hB;clear hR hY rp rp2 hcel hru hru2 hT hT2 hu hj hb hkb hcp k2 e5 e9 h9 hx hnT hnp h11 hB d2 d5;go_enter Tryz.func81,Tryz.ntmps81;go_upto_region 1 with fail;rw[<-(uh HW).1,<-(uh HW).2,<-(uh HB)];clear HW HB;go_upto_region 3 with fail;cases Y
  ·refine wp_region_kbd (m:=0) (by kernel_rfl) (by kernel_rfl) ?_
   repeat go_big_quiet_step ((first|(go_at_call 117;exact CC _)|fail))
   refine wpQuiet_nil ?_;intro w5 hw'
   have HK5:Hid (Kb 0 w w5):=by
    obtain⟨q,hq⟩:=hw';rw[hq];exact(uh HK2).trans q.k
   clear hw' CC p9 p2 p5 hne;go_wp2_with fail;go_ret;exact⟨by first|rfl|simp,HK5⟩
  ·refine wp_region_kbd (m:=0) (by kernel_rfl) (by kernel_rfl) ?_
   repeat go_big_quiet_step ((first|(go_at_call 117;exact CC _)|fail))
   refine wpQuiet_nil ?_;intro w5 hw'
   have HK5:Hid (Kb 0 w w5):=by
    obtain⟨q,hq⟩:=hw';rw[hq];exact(uh HK2).trans q.k
   clear hw' CC p9 p2 p5 hne;go_wp2_with fail;go_ret;exact⟨by first|rfl|simp,HK5⟩
 ·have g:(v.o !=11)=true:=by simpa using h11
  rw[show dc (bx F v T)=true from dc_t (λq=>(h11 q).elim)]at hR;subst hR;obtain⟨pp,cp,rfl,-⟩:=hp;clear hx hnT hT hnp h9 h11 k2 d2 d5;go_enter Tryz.func81,Tryz.ntmps81;go_upto_region 1 with fail;rw[<-(uh HW).1,<-(uh HW).2];clear HW;go_wp2_with fail;go_ret;exact⟨by first|rfl|simp,HK2⟩
