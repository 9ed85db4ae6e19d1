import Derived.Test.YtjakooihcbdcaaaGreatDoorMZsq
import Derived.Test.YtjakooihcbdcaaaGreatDoorMTox
import Derived.Deep.RegionLaw
set_option maxHeartbeats 16000000
namespace Go.Proofs.YtjakooihcbdcaaaGreatDoor.Fo
open Go.ChangeShapes Go.WideShapes Go.ChangeAt Go.RowKit Go.Shelf
set_option linter.unusedVariables false
set_option maxRecDepth 100000
theorem KR.set3 {X:PX} {db:Nat} {W:World} {x:Nat} {vt vg:Value}:KR X db db W (set3 W X.SB x vt vg):=by
 have eb:∀ b,b ≠ X.SB→(Fo.set3 W X.SB x vt vg).heap[b]? = W.heap[b]?:=fun b hb=>((Below.heap_setCell _ _ _ _ hb).trans (Below.heap_setCell _ _ _ _ hb)).trans (Below.heap_setCell _ _ _ _ hb);exact ⟨by unfold Fo.set3;simp,fun b a _=>eb b a.1,.inl rfl⟩
theorem ins_pc {X:PX} {db db':Nat} {M:Nat→Option Sv} {D:List Nat} {vd:Value} {W W1:World} (h:PW X db M D vd W) (hk:(db'=db∧Kx db W W1∧vd ≠ .slice none 0 0)∨(db'=W.heap.size∧Kb 0 W W1)):PsB X vd W1:=by
 have h2:=h.pl;have hs:=h.pf.size;rcases hk with ⟨_,k,q⟩ | ⟨_,k⟩
 ·refine (k.block X.P (by omega) ?_).trans h.pc;rcases h.dn with z | z
  ·exact absurd z.2 q
  ·omega
 ·exact (k.block X.P zq (by omega)).trans h.pc
theorem ins_kr {X:PX} {db db':Nat} {vd v:Value} {W W1:World} (hk:(db'=db∧Kx db W W1∧vd ≠ .slice none 0 0)∨(db'=W.heap.size∧Kb 0 W W1)):KR X db db' W (W1.setCell ⟨X.P,12,none⟩ v):=by
 rcases hk with ⟨e,k,_⟩ | ⟨e,k⟩
 ·exact ⟨by simpa using k.size,fun b a hb=>(Below.heap_setCell _ _ _ _ a.2.1).trans (k.block b hb a.2.2),.inl e⟩
 ·exact ⟨by simpa using k.size,fun b a hb=>(Below.heap_setCell _ _ _ _ a.2.1).trans (k.block b zq hb),.inr (by omega)⟩
theorem im_reach_none {X : PX} {db : Nat} {M : Nat → Option Sv} {D : List Nat} {vd : Value} (w : World) (h : PW X db M D vd w) {i : Nat} (hi : i < X.d.n) (hn : X.d.n ≤ 6000) {s : Sv} {vt vg : Value} (r1 : Rz (AvP X db) w vt s.1) (r2 : Rg (AvP X db) w vg s.2) (hD : D.Pairwise (· < ·)) (hDn : D.length ≤ 6000) (hm : M i = none) :
  Calls Tryz.prog 76 #[.pointer (some ⟨X.P,0,none⟩),.int .i64 i,.agg #[.bool true,vt,vg]] w (RcA X db M D i s w):=by
 have hst:=h.st i hi;rw [hm] at hst;have q0:=hst.1;obtain ⟨q1,q2⟩:=h.ns i hi hm;have hP:w.heap[X.P]? = _:=h.pc;have c11:w.cell? ⟨X.P,11,none⟩=some (.slice (some ⟨X.SB,0,none⟩) X.d.n X.d.n):=cell_of hP rfl;have kA:=fun o=>kb_alloc 0 w o;have q0a:∀ o,(w.alloc o).cell? ⟨X.SB,i*3,none⟩=some (.bool false):=fun o=>(kA o).cell q0;have q1a:∀ o,(w.alloc o).cell? ⟨X.SB,i*3+1,none⟩=some (.slice none 0 0):=fun o=>(kA o).cell q1;have q2a:∀ o,(w.alloc o).cell? ⟨X.SB,i*3+2,none⟩=some (.slice none 0 0):=fun o=>(kA o).cell q2;have c11a:∀ o,(w.alloc o).cell? ⟨X.P,11,none⟩=some (.slice (some ⟨X.SB,0,none⟩) X.d.n X.d.n):=fun o=>(kA o).cell c11;have iI:(i:Int) < (X.d.n:Int):=by omega
 have nI:(X.d.n:Int)≤6000:=by omega
 obtain ⟨w3,hw3⟩:∃ w3,w3=(w.alloc (.cells #[.bool true,vt,vg] 68)).alloc (.cells #[.bool false,.slice none 0 0,.slice none 0 0] 68):=⟨_,rfl⟩
 obtain ⟨b0,b1,bs,k3⟩:=two_new' w _ _ _ _ w3 hw3;have HW3:Hid (w3=(w.alloc (.cells #[.bool true,vt,vg] 68)).alloc (.cells #[.bool false,.slice none 0 0,.slice none 0 0] 68)):=hw3;have e00:w3.cell? ⟨w.heap.size,0,none⟩=some (.bool true):=cell_of b0 rfl;have e01:w3.cell? ⟨w.heap.size,1,none⟩=some vt:=cell_of b0 rfl;have e02:w3.cell? ⟨w.heap.size,2,none⟩=some vg:=cell_of b0 rfl;have e10:w3.cell? ⟨w.heap.size+1,0,none⟩=some (.bool false):=cell_of b1 rfl;have p3:=h.kb k3;have y0:=k3.cell q0;have y1:=k3.cell q1;have y2:=k3.cell q2;have y11:=k3.cell c11;have yf:∀ j,w3.frozen? ⟨X.SB,j,none⟩=false:=p3.sz;have y1':∀ a,(w3.setCell ⟨X.SB,i*3,none⟩ a).cell? ⟨X.SB,i*3+1,none⟩=some (.slice none 0 0):=fun a=>(set_ne _ X.SB _ _ _ (by omega)).trans y1;have y2':∀ a b,((w3.setCell ⟨X.SB,i*3,none⟩ a).setCell ⟨X.SB,i*3+1,none⟩ b).cell? ⟨X.SB,i*3+2,none⟩=some (.slice none 0 0):=fun a b=>(set_ne _ X.SB _ _ _ (by omega)).trans ((set_ne _ X.SB _ _ _ (by omega)).trans y2);have yf1:∀ a,(w3.setCell ⟨X.SB,i*3,none⟩ a).frozen? ⟨X.SB,i*3+1,none⟩=false:=fun a=>(set_fz _ X.SB _ _ _).trans (yf _);have yf2:∀ a b,((w3.setCell ⟨X.SB,i*3,none⟩ a).setCell ⟨X.SB,i*3+1,none⟩ b).frozen? ⟨X.SB,i*3+2,none⟩=false:=fun a b=>(set_fz _ X.SB _ _ _).trans ((set_fz _ X.SB _ _ _).trans (yf _));have p4:=p3.new (x:=i) (s:=s) hi (r1.kb k3) (r2.kb k3);have HP4:Hid (PW X db (upd M i s) D vd (set3 w3 X.SB i vt vg)∧KR X db db w (set3 w3 X.SB i vt vg)):=(⟨p4,(KR.of k3).trans KR.set3⟩:_∧_)
 have HX:Hid (D.Pairwise (· < ·)∧D.length≤6000∧M i=none):=(⟨hD,hDn,hm⟩:_∧_)
 obtain ⟨p1,z1,rfl,-,-⟩:=r1;obtain ⟨p2,z2,rfl,-,-⟩:=r2;clear h hm hi hn hP kA hw3 b0 b1 bs k3 p3 p4 hD hDn;go_enter Tryz.func76,Tryz.ntmps76;go_upto_region 2 with fail;rw [← (uh HW3)];clear HW3 q0 q1 q2 c11 q0a q1a q2a c11a;go_upto_region 4 with fail
 go_region
 obtain ⟨w5,hw5⟩:∃ w5,w5=(((w3.setCell ⟨X.SB,i*3,none⟩ (.bool true)).setCell ⟨X.SB,i*3+1,none⟩ (.slice p1 s.1.length z1)).setCell ⟨X.SB,i*3+2,none⟩ (.slice p2 s.2.length z2)).drew:=⟨_,rfl⟩
 rw [← hw5];obtain ⟨p4,kr4⟩:=(uh HP4)
 obtain ⟨hD,hDn,hm⟩:=(uh HX)
 have k45:Kb 0 (set3 w3 X.SB i (.slice p1 s.1.length z1) (.slice p2 s.2.length z2)) w5:=by rw [hw5];exact kb_drew _
 have p5:=p4.kb k45;have kr5:=kr4.kb k45;have hP5:w5.heap[X.P]? = _:=p5.pc;have c12:w5.cell? ⟨X.P,12,none⟩=some vd:=cell_of hP5 rfl;have HS:=im_search p5.du (by omega) hD i;have HY:Hid (PW X db (upd M i s) D vd w5∧KR X db db w w5∧D.length≤6000∧M i=none):=(⟨p5,kr5,hDn,hm⟩:_∧_)
 obtain ⟨ct,hct⟩:∃ ct,ct=D.countP (· < i):=⟨_,rfl⟩
 have hcl:ct≤D.length:=by rw [hct];exact List.countP_le_length
 rw [← hct] at HS;have HCT:Hid (ct=D.countP (· < i)∧ct≤D.length):=(⟨hct,hcl⟩:_∧_)
 clear hw5 p4 kr4 hD hDn hm k45 p5 kr5 hP5 HP4 HX e00 e01 e02 e10 y0 y1 y2 y11 yf y1' y2' yf1 yf2 hct hcl;obtain ⟨vd0,hvd0⟩:∃ vd0,vd0=vd:=⟨_,rfl⟩
 go_wp2_with fail;refine HS.mono ?_;rintro e w6 ⟨bb,rfl,k6⟩;obtain ⟨p5,kr5,hDn,hm⟩:=(uh HY)
 obtain ⟨hct,hcl⟩:=(uh HCT)
 have c126:=k6.cell c12;have c126a:∀ o,(w6.alloc o).cell? ⟨X.P,12,none⟩=some vd:=fun o=>(kb_alloc 0 w6 o).cell c126;obtain ⟨w7,hw7⟩:∃ w7,w7=w6.alloc (.cells #[.int .i64 i] 3):=⟨_,rfl⟩
 have k7:Kb 0 w6 w7:=by rw [hw7];exact kb_alloc _ _ _
 have b7:w7.heap[w6.heap.size]? = some (.cells #[.int .i64 i] 3 (0,0)):=by rw [hw7];exact alloc_new _ _ _
 have p6:=p5.kb k6;have p7:=p6.kb k7;have kr7:=(kr5.kb k6).kb k7
 have hvb:w6.heap.size ≠ db:=by
  have:=p6.pl;have:=p6.pf.size;rcases p6.dn with z | z <;> omega
 have HI:=im_insert p7.du (by omega) i w6.heap.size hvb b7 ct hcl
 have HZ:Hid (∀ vd' db' w8,Dul w8 db' vd' (D.take ct ++ i :: D.drop ct)→((db'=db∧Kx db w7 w8∧vd ≠ .slice none 0 0)∨(db'=w7.heap.size∧Kb 0 w7 w8))→RcA X db M D i s w (.returned (.bool true)) (w8.setCell ⟨X.P,12,none⟩ vd')∧w8.cell? ⟨X.P,12,none⟩=some vd∧w8.frozen? ⟨X.P,12,none⟩=false∧∃ pd nd cd,vd' = .slice pd nd cd):=(fun vd' db' w8 hd hk=>by
  have hP8:w8.heap[X.P]? = _:=ins_pc p7 hk
  have hsl:db' < w8.heap.size∧∃ pd nd cd,vd' = .slice pd nd cd:=by
   rcases hd with ⟨-,q⟩ | ⟨off,c,e,-,-,-,-,-,h7⟩
   ·simp at q
   ·exact ⟨h7,_,_,_,e⟩
  refine ⟨.inl ⟨rfl,db',vd',upd M i s,insD D i,?_,p7.due (by unfold insD;rw [← hct];exact hd) hk hsl.1,kr7.trans (ins_kr hk)⟩,cell_of hP8 rfl,frozen_of hP8,hsl.2⟩;unfold adv;dsimp only
  rw [hm]:∀ vd',_)
 have HW7:Hid (w7=w6.alloc (.cells #[.int .i64 i] 3)):=hw7;clear p5 kr5 hDn hm hct hcl c12 HS HY HCT k6 k7 hw7 b7 p6 p7 kr7 hvb;go_wp2_with fail;rw [← (uh HW7)];refine HI.mono ?_;rintro e w8 ⟨vd',db',rfl,hd,hk⟩;obtain ⟨hz,c128,f128,pd,nd,cd,rfl⟩:=(uh HZ) vd' db' w8 hd hk;have HZ8:Hid (RcA X db M D i s w (.returned (.bool true)) (w8.setCell ⟨X.P,12,none⟩ (.slice pd nd cd))):=hz;clear HI HZ hd hk hz c126 c126a HW7;go_wp2_with fail;go_ret;exact HZ8
theorem im_reach {X : PX} {db : Nat} {M : Nat → Option Sv} {D : List Nat} {vd : Value} (w : World) (h : PW X db M D vd w) {i : Nat} (hi : i < X.d.n) (hn : X.d.n ≤ 6000) {s : Sv} {vt vg : Value} (r1 : Rz (AvP X db) w vt s.1) (r2 : Rg (AvP X db) w vg s.2) (hD : D.Pairwise (· < ·)) (hDn : D.length ≤ 6000) (hs : s.1.length ≤ 1000 ∧ s.2.length ≤ 1000) (hs0 : ∀ s0, M i = some s0 → s0.1.length ≤ 1000 ∧ s0.2.length ≤ 1000) :
  Calls Tryz.prog 76 #[.pointer (some ⟨X.P,0,none⟩),.int .i64 i,.agg #[.bool true,vt,vg]] w (RcA X db M D i s w):=by
 cases hm:M i with
 | none=>exact im_reach_none w h hi hn r1 r2 hD hDn hm
 | some s0=>exact im_reach_some w h hi hn r1 r2 hs (hs0 s0 hm) hm
