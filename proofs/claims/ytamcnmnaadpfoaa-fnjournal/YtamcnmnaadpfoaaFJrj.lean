import Derived.Test.YtamcnmnaadpfoaaFJri
set_option maxHeartbeats 64000000
namespace Go.Proofs.Ytamcnmnaadpfoaa.Fo
open Go.ChangeShapes Go.WideShapes Go.ChangeAt Go.RowKit
set_option linter.unusedVariables false
set_option maxRecDepth 100000
theorem sp_rj {pa : Addr} {c : Nat} {M : List UInt8} (w : World) (hcap : M.length ≤ c) (hrow : ∀ i (x : UInt8), M[i]? = some x → w.cell? (pa.add i) = some (.int .u8 (x.toNat : Int))) (hal : pa.block < w.heap.size) (hM : M.length ≤ 1048576) :
  Calls Try.prog 5 #[.slice (some pa) M.length c] w (RjM M w):=by
 obtain ⟨w1,hw1⟩:∃ w1,w1=w.alloc (.cells #[.bool false,.slice none 0 0,.int .i64 0,.int .i64 0,.slice none 0 0] 28):=⟨_,rfl⟩
 have k1:Kb 0 w w1:=by rw [hw1];exact kb_alloc _ _ _
 have z1:w1.heap.size=w.heap.size+1:=by rw [hw1];simp
 have b1:w1.heap[w.heap.size]? = some (.cells #[.bool false,.slice none 0 0,.int .i64 0,.int .i64 0,.slice none 0 0] 28 (0,0)):=by rw [hw1];exact alloc_new _ _ _
 have HU:Calls Try.prog 16 #[.slice (some pa) M.length c] w1 (UmA M w1):=by
  rcases Nat.lt_or_ge 8192 M.length with h | h
  ·exact sp_unpack_long hM h
  ·exact sp_unpack hcap (fun i x hx=>k1.cellA (Nat.zero_le _) (hrow i x hx)) (by omega) h
 have H1:Hid (Kb 0 w w1∧w1.heap.size=w.heap.size+1∧w1.heap[w.heap.size]? = some (.cells #[.bool false,.slice none 0 0,.int .i64 0,.int .i64 0,.slice none 0 0] 28 (0,0))∧(M.length≤c∧(∀ i (x:UInt8),M[i]? = some x→w.cell? (pa.add i)=some (.int .u8 (x.toNat:Int))))∧M.length≤1048576):=(⟨k1,z1,b1,⟨hcap,hrow⟩,hM⟩:_∧_)
 have HW:Hid (w1=w.alloc (.cells #[.bool false,.slice none 0 0,.int .i64 0,.int .i64 0,.slice none 0 0] 28)):=hw1
 have HEND:Hid (∀ W,Kb 0 w1 W→w.heap.size+2≤W.heap.size→RjA M false j0→(∀ j,W.frozen? ⟨w.heap.size,j,none⟩=false)∧(W.cell? ⟨w.heap.size,0,none⟩=some (.bool false)∧W.cell? ⟨w.heap.size,1,none⟩=some (.slice none 0 0)∧W.cell? ⟨w.heap.size,2,none⟩=some (.int .i64 0)∧W.cell? ⟨w.heap.size,3,none⟩=some (.int .i64 0)∧W.cell? ⟨w.heap.size,4,none⟩=some (.slice none 0 0))∧∃ WF,WF=(((((W.setCell ⟨w.heap.size,0,none⟩ (.bool false)).setCell ⟨w.heap.size,1,none⟩ (.slice none 0 0)).setCell ⟨w.heap.size,2,none⟩ (.int .i64 0)).setCell ⟨w.heap.size,3,none⟩ (.int .i64 0)).setCell ⟨w.heap.size,4,none⟩ (.slice none 0 0))∧(WF.cell? ⟨w.heap.size,0,none⟩=some (.bool false)∧WF.cell? ⟨w.heap.size,1,none⟩=some (.slice none 0 0)∧WF.cell? ⟨w.heap.size,2,none⟩=some (.int .i64 0)∧WF.cell? ⟨w.heap.size,3,none⟩=some (.int .i64 0)∧WF.cell? ⟨w.heap.size,4,none⟩=some (.slice none 0 0))∧RjM M w (.returned (.agg #[.bool false,.slice none 0 0,.int .i64 0,.int .i64 0,.slice none 0 0])) WF):=(fun W k hz hR=>by
  have bW:=blk_kb b1 k
  obtain ⟨WF,hWF,bF,fr,zF,oF,pF⟩:=five_set (.bool false) (.slice none 0 0) (.int .i64 0) (.int .i64 0) (.slice none 0 0) bW
  have kw:=k1.trans k
  exact ⟨fun j=>frozen_of bW,⟨cell_of bW rfl,cell_of bW rfl,cell_of bW rfl,cell_of bW rfl,cell_of bW rfl⟩,WF,hWF,⟨cell_of bF rfl,cell_of bF rfl,cell_of bF rfl,cell_of bF rfl,cell_of bF rfl⟩,false,j0,_,_,rfl,hR,jx_nil (by omega),⟨oF.trans kw.os,pF.trans kw.output,by have:=kw.size;omega,fun g _ hg=>(fr g (by omega)).trans (kw.block g (Nat.zero_le _) hg)⟩⟩:∀ W,_)
 have hMI:(M.length:Int)≤1048576:=by omega
 clear hcap hrow hal hM hw1 k1 z1 b1
 go_enter Try.func5,Try.ntmps5
 go_upto_region 1 with fail
 rw [← (show w1 = _ from HW)]
 clear HW
 go_wp2_with fail
 refine HU.mono ?_
 rintro e w2 ⟨ok,a,v,ys,rfl,hT,hUn,k2⟩
 clear HU
 obtain ⟨N,hN⟩:∃ N,N=ys.length:=⟨_,rfl⟩
 rw [← hN] at hT
 obtain ⟨pn,cn,rfl,-⟩:=id hT
 obtain ⟨w3,hw3⟩:∃ w3,w3=w2.alloc (.cells #[.bool ok,.int .i64 a.k,.int .i64 a.m,.string a.x,.int .i64 a.r,.slice pn N cn] 46):=⟨_,rfl⟩
 have k3:Kb 0 w2 w3:=by rw [hw3];exact kb_alloc _ _ _
 have z3:w3.heap.size=w2.heap.size+1:=by rw [hw3];simp
 have b3:w3.heap[w2.heap.size]? = some (.cells #[.bool ok,.int .i64 a.k,.int .i64 a.m,.string a.x,.int .i64 a.r,.slice pn N cn] 46 (0,0)):=by rw [hw3];exact alloc_new _ _ _
 obtain ⟨U,hU⟩:∃ U,U=w2.heap.size:=⟨_,rfl⟩
 rw [← hU] at b3
 have u0:w3.cell? ⟨U,0,none⟩=some (.bool ok):=cell_of b3 rfl
 have hz2:=k2.size
 have HW3:Hid (w3=w2.alloc (.cells #[.bool ok,.int .i64 a.k,.int .i64 a.m,.string a.x,.int .i64 a.r,.slice pn N cn] 46)∧U=w2.heap.size):=(⟨hw3,hU⟩:_∧_)
 have hz31:w.heap.size+2≤w3.heap.size:=by have:=(show _∧w1.heap.size=w.heap.size+1∧_ from H1).2.1;omega
 have k13:=k2.trans k3
 cases ok
 case false =>
  have hRj:=rm_no1 hUn
  obtain ⟨fz,⟨c0,c1,c2,c3,c4⟩,WF,hWF,⟨e0,e1,e2,e3,e4⟩,hRM⟩:=(show ∀ W,Kb 0 w1 W→_ from HEND) w3 k13 hz31 hRj
  have HWF:Hid (WF = _):=hWF
  have HRM:Hid (RjM M w (.returned (.agg #[.bool false,.slice none 0 0,.int .i64 0,.int .i64 0,.slice none 0 0])) WF):=hRM
  clear hWF hRM hRj hz31 k13 hT hUn k2 k3 z3 b3 hw3 hU hz2 hN HEND H1
  go_upto_region 2 with fail
  rw [← (show _∧_ from HW3).1,← (show _∧_ from HW3).2]
  clear HW3
  go_wp2_with fail
  rw [← (show WF = _ from HWF)]
  clear HWF
  refine bodyPost_ret (by simp [results,Try.results5,go_sem,e0,e1,e2,e3,e4];rfl) rfl ?_
  exact HRM
 have hT3:=hT.keep k3
 have hG:Gok ys.length (TF ys) a:=by
  obtain ⟨h1,h2,h3,-⟩:=hUn.1 rfl
  exact (pck_read h2 h3 h1).1
 have d5:w3.cell? ⟨U,5,none⟩=some (.slice pn N cn):=cell_of b3 rfl
 obtain ⟨F,hF⟩:∃ F,F=TF ys:=⟨_,rfl⟩
 rw [← hF] at hT3
 have HNO:Hid (¬ CmF N F→RjA M false j0):=(fun h=>no_cm hUn (by rw [← hN,← hF];exact h):_→_)
 have HUN:Hid (UnM M true (a,ys)∧N=ys.length∧F=TF ys):=(⟨hUn,hN,hF⟩:_∧_)
 have HC:Hid (∀ k,(F k).c≤300):=(fun k=>by rw [hF];exact tf_c hG k:∀ k,_)
 have HX:Hid (∀ k j,(zat F k j).x.size≤4000):=(fun k j=>by rw [hF];exact zat_x hG k j:∀ k j,_)
 have hN6:(N:Int)≤600:=by have:=hG.1;omega
 have HZ:Hid (Kb 0 w1 w3∧w.heap.size+2≤w3.heap.size∧U < w3.heap.size∧w3.heap[U]? = some (.cells #[.bool true,.int .i64 a.k,.int .i64 a.m,.string a.x,.int .i64 a.r,.slice pn N cn] 46 (0,0))∧RowT 0 w3 (.slice pn N cn) N F):=(⟨k13,hz31,by omega,b3,hT3⟩:_∧_)
 clear hT hUn k2 k3 z3 b3 hw3 hU hz2 hN hF hG hz31 k13
 by_cases hN3:N < 3
 case pos =>
  have hRj:=(show ¬ CmF N F→_ from HNO) (fun q=>by have:=q.n3;omega)
  obtain ⟨k13,hz31,-⟩:=(show Kb 0 w1 w3∧w.heap.size+2≤w3.heap.size∧_ from HZ)
  have hNI:(N:Int) < 3:=by omega
  obtain ⟨fz,⟨c0,c1,c2,c3,c4⟩,WF,hWF,⟨e0,e1,e2,e3,e4⟩,hRM⟩:=(show ∀ W,Kb 0 w1 W→_ from HEND) w3 k13 hz31 hRj
  have HWF:Hid (WF = _):=hWF
  have HRM:Hid (RjM M w (.returned (.agg #[.bool false,.slice none 0 0,.int .i64 0,.int .i64 0,.slice none 0 0])) WF):=hRM
  clear hWF hRM hRj hz31 k13 hT3 HEND H1 HNO HUN HC HX HZ hN6 hN3
  go_upto_region 2 with fail
  rw [← (show _∧_ from HW3).1,← (show _∧_ from HW3).2]
  clear HW3
  go_wp2_with fail
  rw [← (show WF = _ from HWF)]
  clear HWF
  refine bodyPost_ret (by simp [results,Try.results5,go_sem,e0,e1,e2,e3,e4];rfl) rfl ?_
  exact HRM
 have hNI:¬ (N:Int) < 3:=by omega
 obtain ⟨pq,cq,e,hra⟩:=hT3
 injection e with e1 _ e2
 subst e1 e2
 obtain ⟨ad,rfl,hcapn,-,hra⟩:=hra (by omega)
 have hcapI:(N:Int)≤(cn:Int):=by omega
 obtain ⟨v0,⟨t0,t1⟩,r0⟩:=hra 0 (by omega)
 obtain ⟨p0,d0,rfl,hr0⟩:=id r0
 have v1:w3.cell? ⟨ad.block,ad.off+1,none⟩=some (.slice p0 (F 0).c d0):=t1
 by_cases hc4:(F 0).c=4
 case neg =>
  have hRj:=(show ¬ CmF N F→_ from HNO) (fun q=>hc4 q.c0)
  obtain ⟨k13,hz31,-⟩:=(show Kb 0 w1 w3∧w.heap.size+2≤w3.heap.size∧_ from HZ)
  have hcI:((((F 0).c:Nat):Int) != 4)=true:=by simp;omega
  have hN0:(0:Int) < (N:Int):=by omega
  obtain ⟨fz,⟨c0,c1,c2,c3,c4⟩,WF,hWF,⟨e0,e1,e2,e3,e4⟩,hRM⟩:=(show ∀ W,Kb 0 w1 W→_ from HEND) w3 k13 hz31 hRj
  have HWF:Hid (WF = _):=hWF
  have HRM:Hid (RjM M w (.returned (.agg #[.bool false,.slice none 0 0,.int .i64 0,.int .i64 0,.slice none 0 0])) WF):=hRM
  clear hWF hRM hRj hz31 k13 HEND H1 HNO HUN HC HX HZ hN3 hra t0 t1 r0 hr0 hc4
  generalize (F 0).c=fc at *
  go_upto_region 2 with fail
  rw [← (show _∧_ from HW3).1,← (show _∧_ from HW3).2]
  clear HW3
  go_wp2_with fail
  rw [← (show WF = _ from HWF)]
  clear HWF
  refine bodyPost_ret (by simp [results,Try.results5,go_sem,e0,e1,e2,e3,e4];rfl) rfl ?_
  exact HRM
 rw [hc4] at r0 hr0 v1
 obtain ⟨a0,rfl,hcap0,-,hra0⟩:=hr0 (by omega)
 have hcap0I:(4:Int)≤(d0:Int):=by omega
 obtain ⟨x0,x1,x2,x3⟩:=hra0 0 (by omega)
 obtain ⟨y0,y1,y2,y3⟩:=hra0 1 (by omega)
 obtain ⟨z0,hz0⟩:∃ z0,z0=zat F 0 0:=⟨_,rfl⟩
 obtain ⟨z1,hz1⟩:∃ z1,z1=zat F 0 1:=⟨_,rfl⟩
 have e0:(F 0).C 0=z0:=by rw [hz0];unfold zat;rw [if_pos (by omega)]
 have e1:(F 0).C 1=z1:=by rw [hz1];unfold zat;rw [if_pos (by omega)]
 rw [e0] at x0 x1 x2 x3
 rw [e1] at y0 y1 y2 y3
 obtain ⟨b0,hb0⟩:∃ b0,b0=dc (Sml z0):=⟨_,rfl⟩
 obtain ⟨b1,hb1⟩:∃ b1,b1=dc (Sml z1):=⟨_,rfl⟩
 obtain ⟨B,hB⟩:∃ B,B=w3.heap.size:=⟨_,rfl⟩
 obtain ⟨w4,hw4⟩:∃ w4,w4=w3.alloc (.cells #[.slice none 0 0,.int .i64 0,.int .i64 0,.slice none 0 0] 26):=⟨_,rfl⟩
 have k4:Kb 0 w3 w4:=by rw [hw4];exact kb_alloc _ _ _
 have b4:w4.heap[B]? = some (.cells #[.slice none 0 0,.int .i64 0,.int .i64 0,.slice none 0 0] 26 (0,0)):=by rw [hw4,hB];exact alloc_new _ _ _
 have HS0:=sp_small z0 w4
 rw [← hb0] at HS0
 have HCL:Hid (∀ W,Kb 0 w3 W→W.cell? ⟨U,5,none⟩=some (.slice (some ad) N cn)∧W.cell? ⟨ad.block,ad.off+1,none⟩=some (.slice (some a0) 4 d0)∧(W.cell? a0=some (.int .i64 z0.k)∧W.cell? ⟨a0.block,a0.off+1,none⟩=some (.int .i64 z0.m)∧W.cell? ⟨a0.block,a0.off+2,none⟩=some (.string z0.x)∧W.cell? ⟨a0.block,a0.off+3,none⟩=some (.int .i64 z0.r))∧W.cell? ⟨a0.block,a0.off+4,none⟩=some (.int .i64 z1.k)∧W.cell? ⟨a0.block,a0.off+4+1,none⟩=some (.int .i64 z1.m)∧W.cell? ⟨a0.block,a0.off+4+2,none⟩=some (.string z1.x)∧W.cell? ⟨a0.block,a0.off+4+3,none⟩=some (.int .i64 z1.r)):=(fun W k=>⟨k.cell d5,k.cell v1,⟨k.cell x0,k.cell x1,k.cell x2,k.cell x3⟩,k.cell y0,k.cell y1,k.cell y2,k.cell y3⟩:∀ W,_)
 have HZB:Hid (b0=dc (Sml z0)∧b1=dc (Sml z1)∧z0=zat F 0 0∧z1=zat F 0 1∧(F 0).c=4∧3≤N):=(⟨hb0,hb1,hz0,hz1,hc4,by omega⟩:_∧_)
 have HW4:Hid (w4=w3.alloc (.cells #[.slice none 0 0,.int .i64 0,.int .i64 0,.slice none 0 0] 26)∧B=w3.heap.size):=(⟨hw4,hB⟩:_∧_)
 have HK4:Hid (Kb 0 w3 w4∧w3.heap.size=B∧w4.heap[B]? = some (.cells #[.slice none 0 0,.int .i64 0,.int .i64 0,.slice none 0 0] 26 (0,0))):=(⟨k4,hB.symm,b4⟩:_∧_)
 have HRA:Hid (∀ i,i < N→ThC 0 w3 (ad.add (i*2)) (F i)):=hra
 have hN0:(0:Int) < (N:Int):=by omega
 have hN1:(1:Int) < (N:Int):=by omega
 clear r0 hr0 hc4 hra0 hra x0 x1 x2 x3 y0 y1 y2 y3 e0 e1 hz0 hz1 hb0 hb1 hB hw4 k4 b4 t0 t1 hN3
 go_upto_region 2 with fail
 rw [← (show _∧_ from HW3).1,← (show _∧_ from HW3).2]
 clear HW3
 go_upto_region 5 with fail
 rw [← (show _∧_ from HW4).1,← (show _∧_ from HW4).2]
 clear HW4 u0 d5 v1
 obtain ⟨l5,l1,⟨x0,x1,x2,x3⟩,-⟩:=(show ∀ W,Kb 0 w3 W→_ from HCL) w4 (show _∧_ from HK4).1
 go_upto_region 8 with (go_at_call 17;refine HS0.mono ?_;rintro e w5 ⟨rfl,k5⟩;have b5:=blk_kb (show _∧_∧_ from HK4).2.2 k5;have g1:w5.cell? ⟨B,1,none⟩=some (.int .i64 0):=cell_of b5 rfl;have gz:∀ j,w5.frozen? ⟨B,j,none⟩=false:=fun j=>frozen_of b5)
 clear HS0 l5 l1 x0 x1 x2 x3 g1 gz
 generalize hw6:World.setCell _ _ _=w6
 obtain ⟨k4,hB3,b4⟩:=(show _∧_∧_ from HK4)
 have b6:w6.heap[B]? = some (.cells #[.slice none 0 0,.int .i64 z0.m,.int .i64 0,.slice none 0 0] 26 (0,0)):=by rw [← hw6];exact set_known _ b5
 have k6:Kb 0 w3 w6:=by rw [← hw6];exact (k4.trans k5).setCell _ (.inr (Nat.le_of_eq hB3)) _
 have HS1:=sp_small z1 w6
 rw [← (show b0=dc (Sml z0)∧b1=dc (Sml z1)∧_ from HZB).2.1] at HS1
 obtain ⟨l5,l1,-,y0,y1,y2,y3⟩:=(show ∀ W,Kb 0 w3 W→_ from HCL) w6 k6
 have HK6:Hid (Kb 0 w3 w6∧w3.heap.size=B∧w6.heap[B]? = some (.cells #[.slice none 0 0,.int .i64 z0.m,.int .i64 0,.slice none 0 0] 26 (0,0))):=(⟨k6,hB3,b6⟩:_∧_)
 clear hw6 k4 hB3 b4 b5 k5 b6 k6 HK4
 go_upto_region 9 with (go_at_call 17;refine HS1.mono ?_;rintro e w5 ⟨rfl,k5⟩;have b5:=blk_kb (show _∧_∧_ from HK6).2.2 k5;have g2:w5.cell? ⟨B,2,none⟩=some (.int .i64 0):=cell_of b5 rfl;have gz:∀ j,w5.frozen? ⟨B,j,none⟩=false:=fun j=>frozen_of b5)
 clear HS1 l5 l1 y0 y1 y2 y3 g2 gz
 generalize hw8:World.setCell _ _ _=w8
 obtain ⟨k6,hB3,b6⟩:=(show _∧_∧_ from HK6)
 have b8:w8.heap[B]? = some (.cells #[.slice none 0 0,.int .i64 z0.m,.int .i64 z1.m,.slice none 0 0] 26 (0,0)):=by rw [← hw8];exact set_known _ b5
 have k8:Kb 0 w3 w8:=by rw [← hw8];exact (k6.trans k5).setCell _ (.inr (Nat.le_of_eq hB3)) _
 clear hw8 k6 b6 b5 k5 HK6
 obtain ⟨hb0,hb1,hz0,hz1,hc4,hN3⟩:=(show b0=dc (Sml z0)∧b1=dc (Sml z1)∧z0=zat F 0 0∧z1=zat F 0 1∧(F 0).c=4∧3≤N from HZB)
 obtain ⟨k13,hz31,-,-,-⟩:=(show Kb 0 w1 w3∧w.heap.size+2≤w3.heap.size∧_∧_∧_ from HZ)
 have k18:=k13.trans k8
 have hz18:w.heap.size+2≤w8.heap.size:=by have:=k8.size;omega
 by_cases hbb:b0=true∧b1=true
 case neg =>
  have hRj:=(show ¬ CmF N F→_ from HNO) (fun q=>by
   have s0:=q.s0
   have s1:=q.s1
   rw [← hz0] at s0
   rw [← hz1] at s1
   exact hbb ⟨hb0.trans (dc_t s0),hb1.trans (dc_t s1)⟩)
  obtain ⟨fz,⟨c0,c1,c2,c3,c4⟩,WF,hWF,⟨e0,e1,e2,e3,e4⟩,hRM⟩:=(show ∀ W,Kb 0 w1 W→_ from HEND) w8 k18 hz18 hRj
  have HWF:Hid (WF = _):=hWF
  have HRM:Hid (RjM M w (.returned (.agg #[.bool false,.slice none 0 0,.int .i64 0,.int .i64 0,.slice none 0 0])) WF):=hRM
  clear hWF hRM hRj hz18 k18 k13 hz31 HEND H1 HNO HUN HC HX HZ HZB HCL HRA k8 b8 hB3 hb0 hb1 hz0 hz1 hc4 hN3
  rcases Bool.eq_false_or_eq_true b0 with rfl | rfl
  ·obtain rfl:b1=false:=by cases b1 <;> simp_all
   clear hbb
   go_wp2_with fail
   rw [← (show WF = _ from HWF)]
   clear HWF
   refine bodyPost_ret (by simp [results,Try.results5,go_sem,e0,e1,e2,e3,e4];rfl) rfl ?_
   exact HRM
  ·clear hbb
   cases b1
   ·go_wp2_with fail
    rw [← (show WF = _ from HWF)]
    clear HWF
    refine bodyPost_ret (by simp [results,Try.results5,go_sem,e0,e1,e2,e3,e4];rfl) rfl ?_
    exact HRM
   ·go_wp2_with fail
    rw [← (show WF = _ from HWF)]
    clear HWF
    refine bodyPost_ret (by simp [results,Try.results5,go_sem,e0,e1,e2,e3,e4];rfl) rfl ?_
    exact HRM
 obtain ⟨rfl,rfl⟩:=hbb
 obtain ⟨p,hp⟩:∃ p,p=z0.m:=⟨_,rfl⟩
 obtain ⟨q,hq⟩:∃ q,q=z1.m:=⟨_,rfl⟩
 rw [← hp,← hq] at b8
 rw [← hp,← hq]
 have hpJ:p=(jmF N F).p:=by rw [hp,hz0];rfl
 have hqJ:q=(jmF N F).q:=by rw [hq,hz1];rfl
 obtain ⟨w10,rfl⟩:∃ w10,w10=w8:=⟨_,rfl⟩
 obtain ⟨vn1,⟨-,t1⟩,r1⟩:=(show ∀ i,i < N→ThC 0 w3 (ad.add (i*2)) (F i) from HRA) 1 (by omega)
 obtain ⟨q1,d1,rfl,-⟩:=id r1
 have l5:=((show ∀ W,Kb 0 w3 W→_ from HCL) w10 k8).1
 have l1:w10.cell? ⟨ad.block,ad.off+2+1,none⟩=some (.slice q1 (F 1).c d1):=k8.cell t1
 have HPQ:Hid (p=(jmF N F).p∧q=(jmF N F).q∧3≤N∧(F 0).c=4∧Sml (zat F 0 0)∧Sml (zat F 0 1)):=(⟨hpJ,hqJ,hN3,hc4,by rw [← hz0];exact @of_decide_eq_true _ (Classical.propDecidable _) hb0.symm,by rw [← hz1];exact @of_decide_eq_true _ (Classical.propDecidable _) hb1.symm⟩:_∧_)
 have HLJ:Hid (LJn w10 B p q (jmF N F).S 0 (.slice none 0 0) w10):=(⟨⟨rfl,rfl,Nat.le_refl _,fun _ _ _=>rfl⟩,b8,World.ownsRow_nil _ _ _ _,blk_lt b8⟩:LJn _ _ _ _ _ _ _ _)
 have H10:Hid (Kb 0 w3 w10∧w3.heap.size=B∧B < w10.heap.size∧Kb 0 w1 w3∧w.heap.size+2≤w3.heap.size):=(⟨k8,hB3,blk_lt b8,k13,hz31⟩:_∧_)
 have HR:Hid (RowW 0 w3 (.slice q1 (F 1).c d1) (F 1).c (F 1).C):=r1
 have hc1:((F 1).c:Int)≤300:=by have:=(show ∀ k,_ from HC) 1;omega
 clear HZB k8 hB3 b8 hz0 hz1 hc4 hp hq k18 hz18 k13 hz31 hb0 hb1 hN3 hpJ hqJ r1 t1
 obtain ⟨n1,hn1⟩:∃ n1,n1=(F 1).c:=⟨_,rfl⟩
 have HN1:Hid (n1=(F 1).c):=hn1
 rw [← hn1] at hc1 HR l1
 clear hn1
 go_wp2_with fail
 clear l5 l1
 go_loopw [75] (fun s75 wr=>∃ (i:Nat) (v:Value),s75 = .int .i64 (i:Int)∧i≤n1∧Hid (LJn w10 B p q (jmF N F).S i v wr)) (fun s75 _=>n1 - (intOf s75).toNat)
 case atStart=>exact ⟨0,_,rfl,Nat.zero_le _,HLJ⟩
 case round =>
  clear HLJ
  obtain ⟨i,v,rfl,hin,HX1⟩:=hrel
  have hX:=(show LJn w10 B p q (jmF N F).S i v wr from HX1)
  obtain ⟨px,cx,rfl⟩:=own_shape hX.ow
  rcases Nat.lt_or_ge i n1 with hi | hi
  case inl =>
   have hiI:(i:Int) < (n1:Int):=by omega
   have hr1:=(show RowW 0 w3 (.slice q1 n1 d1) n1 (F 1).C from HR)
   obtain ⟨_,_,e0,hl⟩:=hr1
   injection e0 with e1 e2 e3
   subst e1 e3
   obtain ⟨an,rfl,hca,-,hra⟩:=hl (by omega)
   obtain ⟨k310,hB3,hBl,-,-⟩:=(show Kb 0 w3 w10∧w3.heap.size=B∧B < w10.heap.size∧_∧_ from H10)
   have kwr:Kb 0 w3 wr:=kg_kbo hX.kg k310 (Nat.le_of_eq hB3)
   obtain ⟨z,hz⟩:∃ z,z=(F 1).C i:=⟨_,rfl⟩
   have hzS:(jmF N F).S i=z.x:=by
    show (zat F 1 i).x = _
    unfold zat
    rw [if_pos (by rw [← (show n1 = _ from HN1)];exact hi),hz]
   obtain ⟨y0,y1,y2,y3⟩:=hra i hi
   rw [← hz] at y0 y1 y2 y3
   replace y0:=kwr.cell y0
   replace y1:=kwr.cell y1
   replace y2:=kwr.cell y2
   replace y3:=kwr.cell y3
   obtain ⟨wX,hwX⟩:∃ wX,wX=wr.alloc (.cells #[.int .i64 z.k,.int .i64 z.m,.string z.x,.int .i64 z.r] 41):=⟨_,rfl⟩
   have kX:Kb 0 wr wX:=by rw [hwX];exact kb_alloc _ _ _
   have bX:wX.heap[wr.heap.size]? = some (.cells #[.int .i64 z.k,.int .i64 z.m,.string z.x,.int .i64 z.r] 41 (0,0)):=by rw [hwX];exact alloc_new _ _ _
   have hY:=hX.kb kX
   have c0:wX.cell? ⟨B,0,none⟩=some (.slice px i cx):=cell_of hY.lb rfl
   have c2:wX.cell? ⟨wr.heap.size,2,none⟩=some (.string z.x):=cell_of bX rfl
   have HPU:Hid (∀ W w8 v',Kb 0 wX W→w8.ownsRow w10.heap.size 9 1 v' (i+1) (stl (jmF N F).S i ++ [.string z.x])→W.grownBy w8 (Value.slice px i cx).ownBlock→w8.cell? ⟨B,0,none⟩=some (.slice px i cx)∧(∀ j,w8.frozen? ⟨B,j,none⟩=false)∧LJn w10 B p q (jmF N F).S (i+1) v' (w8.setCell ⟨B,0,none⟩ v')):=(fun W w8 v' k ho hg=>⟨cell_of ((hY.kb k).grown hg).2 rfl,fun j=>frozen_of ((hY.kb k).grown hg).2,(hY.kb k).push (by rw [hzS];exact ho) hg⟩:∀ W w8 v',_)
   have HOW:Hid (wX.ownsRow w10.heap.size 9 1 (.slice px i cx) i (stl (jmF N F).S i)∧w10.heap.size≤wX.heap.size):=(⟨hY.ow,hY.kg.size⟩:_∧_)
   obtain ⟨i0,hi0,hz0,hz1,hz2⟩:=info_parts infoSr
   have HI0:Hid (Try.prog.info? 9=some i0):=hi0
   have h1c:Hid (∀ y ∈ ([.string z.x]:List Value),y.oneCell'=true):=(by
    intro y hy
    simp only [List.mem_cons,List.not_mem_nil,or_false] at hy
    rw [hy]
    rfl:∀ y ∈ ([.string z.x]:List Value),y.oneCell'=true)
   have HQC:Hid (∀ (k:Nat) (y:Value),([.string z.x]:List Value)[k]? = some y→(wX.alloc (.cells #[.string z.x] 9)).cell? ((⟨wX.heap.size,0,none⟩:Addr).add k)=some y):=(qr_cells wX #[.string z.x] 9 [.string z.x] rfl:∀ (k:Nat) (y:Value),_)
   have HKA:Hid (∀ ob,Kb 0 wX (wX.alloc ob)):=(fun ob=>kb_alloc _ _ _:∀ ob,_)
   have HWX:Hid (wX=wr.alloc (.cells #[.int .i64 z.k,.int .i64 z.m,.string z.x,.int .i64 z.r] 41)):=hwX
   obtain ⟨LS0,hLS0⟩:∃ LS0,LS0=stl (jmF N F).S i:=⟨_,rfl⟩
   rw [← hLS0] at HOW HPU
   have hic:i < 300:=by omega
   clear hX HX1 hi0 hi hl k310 hB3 hBl kwr hz hra hwX kX bX hY hLS0 HC H10 HPQ HN1 HR hzS HEND HNO HUN HX HZ HCL HRA H1
   go_upto_region 14 with fail
   rw [← (show wX = _ from HWX)]
   clear HWX y0 y1 y2 y3
   go_wp2_with (refine wpList_append_own _ (by rfl) (.tmp 80) (.tmp 83) 23 (by rfl) w10.heap.size 9 i0 (.string ⟨#[]⟩) 1 16 Try.underlying23 HI0 hz0 hz1 hz2 rfl (by decide) (.slice px i cx) i LS0 (by rfl) ((show _∧_ from HOW).1.alloc _) ⟨wX.heap.size,0,none⟩ 1 1 [.string z.x] (by rfl) rfl (show ∀ (k:Nat) (y:Value),_ from HQC) (show ∀ y ∈ _,_ from h1c) (by unfold maxLen;omega) (by omega) (by have:=(show _∧_ from HOW).2;simp;omega) ?_;intro v' w8 hown1 hgrow1 _;obtain ⟨px',cx',rfl⟩:=own_shape hown1;obtain ⟨hS8,hf8,hLS8⟩:=(show ∀ W w8 v',Kb 0 wX W→_ from HPU) _ _ _ ((show ∀ ob,_ from HKA) _) hown1 hgrow1;replace hLS8:Hid (LJn w10 B p q (jmF N F).S (i+1) (.slice px' (i+1) cx') (w8.setCell ⟨B,0,none⟩ (.slice px' (i+1) cx'))):=hLS8;clear HPU hown1 hgrow1 HOW HQC HKA c0)
   go_roundw
   case rel=>exact ⟨i+1,_,by go_num,by omega,hLS8⟩
   case measure=>simp [intOf];omega
  obtain rfl:i=n1:=by omega
  have hI1:¬ (i:Int) < (i:Int):=by omega
  obtain ⟨k310,hB3,hBl,k13,hz31⟩:=(show Kb 0 w3 w10∧w3.heap.size=B∧B < w10.heap.size∧Kb 0 w1 w3∧w.heap.size+2≤w3.heap.size from H10)
  have kw11:Kb 0 w3 wr:=kg_kbo hX.kg k310 (Nat.le_of_eq hB3)
  have zk:=hX.kg.size
  have l2:wr.cell? ⟨U,5,none⟩=some (.slice (some ad) N cn):=((show ∀ W,Kb 0 w3 W→_ from HCL) wr kw11).1
  have HSJ:Hid (SJn wr B p q (.slice px i cx) (jmF N F).T 0 (.slice none 0 0) wr):=(⟨⟨rfl,rfl,Nat.le_refl _,fun _ _ _=>rfl⟩,hX.lb,World.ownsRow_nil _ _ _ _,by omega⟩:SJn _ _ _ _ _ _ _ _ _)
  have H11:Hid (Kb 0 w3 wr∧w3.heap.size=B∧B < wr.heap.size∧wr.ownsRow (B+1) 9 1 (.slice px i cx) i (stl (jmF N F).S i)∧Kb 0 w1 w3∧w.heap.size+2≤w3.heap.size∧i=(F 1).c):=(⟨kw11,hB3,by omega,own_base hX.ow (by omega),k13,hz31,HN1⟩:_∧_)
  obtain ⟨w11,rfl⟩:∃ w11,w11=wr:=⟨_,rfl⟩
  obtain ⟨n1,rfl⟩:∃ n1,n1=i:=⟨_,rfl⟩
  obtain ⟨pl,rfl⟩:∃ pl,pl=px:=⟨_,rfl⟩
  obtain ⟨cl,rfl⟩:∃ cl,cl=cx:=⟨_,rfl⟩
  clear hX HX1 k310 hB3 hBl k13 hz31 zk kw11 hi hin H10 HN1 HR HCL
  have hN3:(3:Int)≤(N:Int):=by have:=(show _∧_∧3≤N∧_ from HPQ).2.2.1;omega
  obtain ⟨pz,cz,hsl,hcz,hpz⟩:=sl3 (ad:=ad) (N:=N) (cn:=cn) (by omega) (by omega)
  obtain ⟨n2,hn2⟩:∃ n2,n2=N - 3:=⟨_,rfl⟩
  rw [← hn2] at hsl hcz
  have HN2:Hid (n2=N - 3∧(3 < N→∃ ae,pz=some ae∧ae=ad.add 6)):=(⟨hn2,hpz⟩:_∧_)
  have hn6:(n2:Int)≤600:=by omega
  have hczI:(n2:Int)≤(cz:Int):=by omega
  clear hn2 hpz hN3
  go_wp2_with fail
  clear l2 hsl
  go_loopw [92] (fun s92 wr=>∃ (i:Nat) (u:Value),s92 = .int .i64 (i:Int)∧i≤n2∧Hid (SJn w11 B p q (.slice pl n1 cl) (jmF N F).T i u wr∧∀ k,k < i→(F (3+k)).c=4)) (fun s92 _=>n2 - (intOf s92).toNat)
  case atStart=>exact ⟨0,_,rfl,Nat.zero_le _,(⟨HSJ,fun k hk=>absurd hk (Nat.not_lt_zero _)⟩:_∧_)⟩
  case round =>
   clear HSJ
   obtain ⟨i,u,rfl,hin,HX1⟩:=hrel
   obtain ⟨hX,hF4⟩:=(show SJn w11 B p q (.slice pl n1 cl) (jmF N F).T i u wr∧∀ k,k < i→(F (3+k)).c=4 from HX1)
   obtain ⟨px,cx,rfl⟩:=own_shape hX.ow
   rcases Nat.lt_or_ge i n2 with hi | hi
   case inl =>
    have hiI:(i:Int) < (n2:Int):=by omega
    obtain ⟨k311,hB3,hBl,-,k13,hz31,-⟩:=(show Kb 0 w3 w11∧w3.heap.size=B∧B < w11.heap.size∧_∧Kb 0 w1 w3∧w.heap.size+2≤w3.heap.size∧_ from H11)
    have kwr:Kb 0 w3 wr:=kg_kbo hX.kg k311 (Nat.le_of_eq hB3)
    obtain ⟨hn2,hpz⟩:=(show n2=N - 3∧(3 < N→∃ ae,pz=some ae∧ae=ad.add 6) from HN2)
    have h3i : 3+i < N:=by omega
    obtain ⟨ae,rfl,hae⟩:=hpz (by omega)
    obtain ⟨vc,⟨t0,t1⟩,r1⟩:=(show ∀ i,i < N→ThC 0 w3 (ad.add (i*2)) (F i) from HRA) (3+i) h3i
    obtain ⟨pc,dc1,rfl,hrc⟩:=id r1
    have ea:ad.add ((3+i)*2)=ae.add (i*2):=by
     rw [hae,Addr.add_add]
     congr 1
     omega
    rw [ea] at t0 t1
    replace t0:=kwr.cell t0
    replace t1:=kwr.cell t1
    obtain ⟨Y,hYe⟩:∃ Y,Y=wr.heap.size:=⟨_,rfl⟩
    obtain ⟨ft,hft⟩:∃ ft,ft=(F (3+i)).t:=⟨_,rfl⟩
    obtain ⟨fc,hfc⟩:∃ fc,fc=(F (3+i)).c:=⟨_,rfl⟩
    rw [← hft] at t0
    rw [← hfc] at t1 r1 hrc
    obtain ⟨wX,hwX⟩:∃ wX,wX=wr.alloc (.cells #[.int .i64 ft,.slice pc fc dc1] 50):=⟨_,rfl⟩
    have kX:Kb 0 wr wX:=by rw [hwX];exact kb_alloc _ _ _
    have bX:wX.heap[Y]? = some (.cells #[.int .i64 ft,.slice pc fc dc1] 50 (0,0)):=by rw [hwX,hYe];exact alloc_new _ _ _
    have x1:wX.cell? ⟨Y,1,none⟩=some (.slice pc fc dc1):=cell_of bX rfl
    have HWX:Hid (wX=wr.alloc (.cells #[.int .i64 ft,.slice pc fc dc1] 50)∧Y=wr.heap.size):=(⟨hwX,hYe⟩:_∧_)
    have hfc3:(fc:Int)≤300:=by have:=(show ∀ k,_ from HC) (3+i);omega
    by_cases hc4:fc=4
    case neg =>
     have hRj:=(show ¬ CmF N F→_ from HNO) (fun q=>hc4 (by rw [hfc];exact q.c4 (3+i) (Nat.le_add_right 3 i) h3i))
     have k1X:=(k13.trans kwr).trans kX
     have hzX:w.heap.size+2≤wX.heap.size:=by have:=(kwr.trans kX).size;omega
     have hne4:((fc:Int) != 4)=true:=by simp;omega
     obtain ⟨fz,⟨c0,c1,c2,c3,c4⟩,WF,hWF,⟨e0,e1,e2,e3,e4⟩,hRM⟩:=(show ∀ W,Kb 0 w1 W→_ from HEND) wX k1X hzX hRj
     have HWF:Hid (WF = _):=hWF
     have HRM:Hid (RjM M w (.returned (.agg #[.bool false,.slice none 0 0,.int .i64 0,.int .i64 0,.slice none 0 0])) WF):=hRM
     clear hWF hRM hRj hzX k1X HEND H1 HNO HUN HC HX HZ HRA hX HX1 hF4 k311 hB3 hBl k13 hz31 kwr hn2 hpz h3i hae r1 hrc hc4 hfc hft hwX hYe kX bX HPQ HN2 H11 ea
     go_upto_region 19 with fail
     rw [← (show _∧_ from HWX).1,← (show _∧_ from HWX).2]
     clear HWX t0 t1
     go_upto_region 20 with fail
     rename_i K0 hK0
     have HK0:KrJ M w K0:=fun a' w' h=>hK0 a' w' (wp_ret h)
     clear hK0
     refine thenJ ?_
     go_wp2_with fail
     rw [← (show WF = _ from HWF)]
     clear HWF
     refine HK0 _ _ (bodyPost_ret (by simp [results,Try.results5,go_sem,e0,e1,e2,e3,e4];rfl) rfl ?_)
     exact HRM
    subst hc4
    have hF3:(F (3+i)).c=4:=hfc.symm
    obtain ⟨ac,rfl,hcac,-,hrac⟩:=hrc (by omega)
    have hcacI:(4:Int)≤(dc1:Int):=by omega
    obtain ⟨z0,hz0⟩:∃ z0,z0=zat F (3+i) 0:=⟨_,rfl⟩
    obtain ⟨z1,hz1⟩:∃ z1,z1=zat F (3+i) 1:=⟨_,rfl⟩
    obtain ⟨z2,hz2⟩:∃ z2,z2=zat F (3+i) 2:=⟨_,rfl⟩
    obtain ⟨z3,hz3⟩:∃ z3,z3=zat F (3+i) 3:=⟨_,rfl⟩
    have e0:(F (3+i)).C 0=z0:=by rw [hz0];unfold zat;rw [if_pos (by omega)]
    have e1:(F (3+i)).C 1=z1:=by rw [hz1];unfold zat;rw [if_pos (by omega)]
    have e2:(F (3+i)).C 2=z2:=by rw [hz2];unfold zat;rw [if_pos (by omega)]
    have e3:(F (3+i)).C 3=z3:=by rw [hz3];unfold zat;rw [if_pos (by omega)]
    have HTI:Hid (([.int .i64 ((jmF N F).T i).k,.int .i64 ((jmF N F).T i).m,.int .i64 ((jmF N F).T i).r,.string ((jmF N F).T i).x]:List Value) = [.int .i64 z0.m,.int .i64 z1.m,.int .i64 z2.m,.string z3.x]):=(by
     show ([.int .i64 (zat F (3+i) 0).m,.int .i64 (zat F (3+i) 1).m,.int .i64 (zat F (3+i) 2).m,.string (zat F (3+i) 3).x]:List Value) = _
     rw [hz0,hz1,hz2,hz3]:([.int .i64 ((jmF N F).T i).k,.int .i64 ((jmF N F).T i).m,.int .i64 ((jmF N F).T i).r,.string ((jmF N F).T i).x]:List Value) = _)
    obtain ⟨u0,u1,u2,u3⟩:=hrac 0 (by omega)
    obtain ⟨y0,y1,y2,y3⟩:=hrac 1 (by omega)
    obtain ⟨s0,s1,s2,s3⟩:=hrac 2 (by omega)
    obtain ⟨g0,g1,g2,g3⟩:=hrac 3 (by omega)
    rw [e0] at u0 u1 u2 u3
    rw [e1] at y0 y1 y2 y3
    rw [e2] at s0 s1 s2 s3
    rw [e3] at g0 g1 g2 g3
    obtain ⟨wS,hwS⟩:∃ wS,wS=wX.alloc (.cells #[.int .i64 0,.int .i64 0,.int .i64 0,.string ⟨#[]⟩] 38):=⟨_,rfl⟩
    obtain ⟨D,hD⟩:∃ D,D=wX.heap.size:=⟨_,rfl⟩
    have kS:Kb 0 wX wS:=by rw [hwS];exact kb_alloc _ _ _
    have bS:wS.heap[D]? = some (.cells #[.int .i64 0,.int .i64 0,.int .i64 0,.string ⟨#[]⟩] 38 (0,0)):=by rw [hwS,hD];exact alloc_new _ _ _
    have HCV:Hid (∀ W,Kb 0 w3 W→(W.cell? ac=some (.int .i64 z0.k)∧W.cell? ⟨ac.block,ac.off+1,none⟩=some (.int .i64 z0.m)∧W.cell? ⟨ac.block,ac.off+2,none⟩=some (.string z0.x)∧W.cell? ⟨ac.block,ac.off+3,none⟩=some (.int .i64 z0.r))∧(W.cell? ⟨ac.block,ac.off+4,none⟩=some (.int .i64 z1.k)∧W.cell? ⟨ac.block,ac.off+4+1,none⟩=some (.int .i64 z1.m)∧W.cell? ⟨ac.block,ac.off+4+2,none⟩=some (.string z1.x)∧W.cell? ⟨ac.block,ac.off+4+3,none⟩=some (.int .i64 z1.r))∧(W.cell? ⟨ac.block,ac.off+8,none⟩=some (.int .i64 z2.k)∧W.cell? ⟨ac.block,ac.off+8+1,none⟩=some (.int .i64 z2.m)∧W.cell? ⟨ac.block,ac.off+8+2,none⟩=some (.string z2.x)∧W.cell? ⟨ac.block,ac.off+8+3,none⟩=some (.int .i64 z2.r))∧W.cell? ⟨ac.block,ac.off+12+2,none⟩=some (.string z3.x)):=(fun W k=>⟨⟨k.cell u0,k.cell u1,k.cell u2,k.cell u3⟩,⟨k.cell y0,k.cell y1,k.cell y2,k.cell y3⟩,⟨k.cell s0,k.cell s1,k.cell s2,k.cell s3⟩,k.cell g2⟩:∀ W,_)
    have k3S:=(kwr.trans kX).trans kS
    have HWS:Hid (wS=wX.alloc (.cells #[.int .i64 0,.int .i64 0,.int .i64 0,.string ⟨#[]⟩] 38)∧D=wX.heap.size):=(⟨hwS,hD⟩:_∧_)
    have HKR:Hid (Kb 0 w3 wr∧Kb 0 wr wX∧SJn w11 B p q (.slice pl n1 cl) (jmF N F).T i (.slice px i cx) wr):=(⟨kwr,kX,hX⟩:_∧_)
    have HKS:Hid (Kb 0 w3 wS∧Kb 0 wX wS∧Y < D∧wX.heap.size=D∧wX.heap[Y]? = some (.cells #[.int .i64 ft,.slice (some ac) 4 dc1] 50 (0,0))∧wS.heap[D]? = some (.cells #[.int .i64 0,.int .i64 0,.int .i64 0,.string ⟨#[]⟩] 38 (0,0))):=(⟨k3S,kS,by rw [hD];exact blk_lt bX,hD.symm,bX,bS⟩:_∧_)
    have HF4:Hid (∀ k,k < i+1→(F (3+k)).c=4):=(fun k hk=>by
     rcases Nat.lt_or_ge k i with h | h
     ·exact hF4 k h
     ·obtain rfl:k=i:=by omega
      exact hF3:∀ k,_)
    have hic:i < 600:=by omega
    clear hX HX1 hF4 k311 hB3 hBl k13 hz31 kwr hn2 hpz h3i hae r1 hrc hfc hft hwX hYe kX bX hF3 hrac hz0 hz1 hz2 hz3 e0 e1 e2 e3 u0 u1 u2 u3 y0 y1 y2 y3 s0 s1 s2 s3 g0 g1 g2 g3 hwS hD kS bS k3S ea hi HRA HC HZ H11 HPQ HN2 HEND HNO HUN HX H1
    go_upto_region 19 with fail
    rw [← (show _∧_ from HWX).1,← (show _∧_ from HWX).2]
    clear HWX t0 t1
    go_upto_region 22 with fail
    rw [← (show _∧_ from HWS).1,← (show _∧_ from HWS).2]
    clear HWS x1
    have HQ0:Hid (Kb 0 w3 wS∧Kb 0 wX wS∧Y < D∧wX.heap.size=D∧wX.heap[Y]? = some (.cells #[.int .i64 ft,.slice (some ac) 4 dc1] 50 (0,0))∧wS.heap[D]? = some (.cells #[.int .i64 0,.int .i64 0,.int .i64 0,.string ⟨#[]⟩] 38 (0,0))):=HKS
    obtain ⟨k3S,kS,hYD,hzD,bY,bS⟩:=(show Kb 0 w3 wS∧Kb 0 wX wS∧Y < D∧wX.heap.size=D∧wX.heap[Y]? = some (.cells #[.int .i64 ft,.slice (some ac) 4 dc1] 50 (0,0))∧wS.heap[D]? = some (.cells #[.int .i64 0,.int .i64 0,.int .i64 0,.string ⟨#[]⟩] 38 (0,0)) from HQ0)
    have x1:wS.cell? ⟨Y,1,none⟩=some (.slice (some ac) 4 dc1):=cell_of (blk_kb bY kS) rfl
    obtain ⟨⟨u0,u1,u2,u3⟩,-⟩:=(show ∀ W,Kb 0 w3 W→_ from HCV) wS k3S
    have HS:=sp_small z0 wS
    obtain ⟨mm0,hmm⟩:∃ m,m=dc (Sml z0):=⟨_,rfl⟩
    rw [← hmm] at HS
    clear k3S kS hYD hzD bY bS hmm
    go_upto_region 23 with (go_at_call 17;refine HS.mono ?_;rintro e x5 ⟨rfl,k5⟩;have b5:=blk_kb (show _∧_∧_∧_∧_∧_ from HQ0).2.2.2.2.2 k5;have g0:x5.cell? ⟨D,0,none⟩=some (.int .i64 0):=cell_of b5 rfl;have gz:∀ j,x5.frozen? ⟨D,j,none⟩=false:=fun j=>frozen_of b5)
    clear HS x1 u0 u1 u2 u3 g0 gz
    generalize hV:World.setCell _ _ _=V0
    obtain ⟨k3S,kS,hYD,hzD,bY,bS⟩:=(show Kb 0 w3 wS∧Kb 0 wX wS∧Y < D∧wX.heap.size=D∧wX.heap[Y]? = some (.cells #[.int .i64 ft,.slice (some ac) 4 dc1] 50 (0,0))∧wS.heap[D]? = some (.cells #[.int .i64 0,.int .i64 0,.int .i64 0,.string ⟨#[]⟩] 38 (0,0)) from HQ0)
    have bV:V0.heap[D]? = some (.cells #[.int .i64 z0.m,.int .i64 0,.int .i64 0,.string ⟨#[]⟩] 38 (0,0)):=by rw [← hV];exact set_known _ b5
    have kV:Kb 0 wX V0:=by rw [← hV];exact (kS.trans k5).setCell _ (.inr (Nat.le_of_eq hzD)) _
    have HQ1:Hid (Kb 0 w3 V0∧Kb 0 wX V0∧Y < D∧wX.heap.size=D∧wX.heap[Y]? = some (.cells #[.int .i64 ft,.slice (some ac) 4 dc1] 50 (0,0))∧V0.heap[D]? = some (.cells #[.int .i64 z0.m,.int .i64 0,.int .i64 0,.string ⟨#[]⟩] 38 (0,0))):=(⟨((show _∧_ from HKR).1.trans (show _∧Kb 0 wr wX∧_ from HKR).2.1).trans kV,kV,hYD,hzD,bY,bV⟩:_∧_)
    clear hV k3S kS hYD hzD bY bS bV kV b5 k5 HQ0
    obtain ⟨k3S,kS,hYD,hzD,bY,bS⟩:=(show Kb 0 w3 V0∧Kb 0 wX V0∧Y < D∧wX.heap.size=D∧wX.heap[Y]? = some (.cells #[.int .i64 ft,.slice (some ac) 4 dc1] 50 (0,0))∧V0.heap[D]? = some (.cells #[.int .i64 z0.m,.int .i64 0,.int .i64 0,.string ⟨#[]⟩] 38 (0,0)) from HQ1)
    have x1:V0.cell? ⟨Y,1,none⟩=some (.slice (some ac) 4 dc1):=cell_of (blk_kb bY kS) rfl
    obtain ⟨-,⟨y0,y1,y2,y3⟩,-⟩:=(show ∀ W,Kb 0 w3 W→_ from HCV) V0 k3S
    have HS:=sp_small z1 V0
    obtain ⟨mm1,hmm⟩:∃ m,m=dc (Sml z1):=⟨_,rfl⟩
    rw [← hmm] at HS
    clear k3S kS hYD hzD bY bS hmm
    go_upto_region 24 with (go_at_call 17;refine HS.mono ?_;rintro e x5 ⟨rfl,k5⟩;have b5:=blk_kb (show _∧_∧_∧_∧_∧_ from HQ1).2.2.2.2.2 k5;have g0:x5.cell? ⟨D,1,none⟩=some (.int .i64 0):=cell_of b5 rfl;have gz:∀ j,x5.frozen? ⟨D,j,none⟩=false:=fun j=>frozen_of b5)
    clear HS x1 y0 y1 y2 y3 g0 gz
    generalize hV:World.setCell _ _ _=V1
    obtain ⟨k3S,kS,hYD,hzD,bY,bS⟩:=(show Kb 0 w3 V0∧Kb 0 wX V0∧Y < D∧wX.heap.size=D∧wX.heap[Y]? = some (.cells #[.int .i64 ft,.slice (some ac) 4 dc1] 50 (0,0))∧V0.heap[D]? = some (.cells #[.int .i64 z0.m,.int .i64 0,.int .i64 0,.string ⟨#[]⟩] 38 (0,0)) from HQ1)
    have bV:V1.heap[D]? = some (.cells #[.int .i64 z0.m,.int .i64 z1.m,.int .i64 0,.string ⟨#[]⟩] 38 (0,0)):=by rw [← hV];exact set_known _ b5
    have kV:Kb 0 wX V1:=by rw [← hV];exact (kS.trans k5).setCell _ (.inr (Nat.le_of_eq hzD)) _
    have HQ2:Hid (Kb 0 w3 V1∧Kb 0 wX V1∧Y < D∧wX.heap.size=D∧wX.heap[Y]? = some (.cells #[.int .i64 ft,.slice (some ac) 4 dc1] 50 (0,0))∧V1.heap[D]? = some (.cells #[.int .i64 z0.m,.int .i64 z1.m,.int .i64 0,.string ⟨#[]⟩] 38 (0,0))):=(⟨((show _∧_ from HKR).1.trans (show _∧Kb 0 wr wX∧_ from HKR).2.1).trans kV,kV,hYD,hzD,bY,bV⟩:_∧_)
    clear hV k3S kS hYD hzD bY bS bV kV b5 k5 HQ1
    obtain ⟨k3S,kS,hYD,hzD,bY,bS⟩:=(show Kb 0 w3 V1∧Kb 0 wX V1∧Y < D∧wX.heap.size=D∧wX.heap[Y]? = some (.cells #[.int .i64 ft,.slice (some ac) 4 dc1] 50 (0,0))∧V1.heap[D]? = some (.cells #[.int .i64 z0.m,.int .i64 z1.m,.int .i64 0,.string ⟨#[]⟩] 38 (0,0)) from HQ2)
    have x1:V1.cell? ⟨Y,1,none⟩=some (.slice (some ac) 4 dc1):=cell_of (blk_kb bY kS) rfl
    obtain ⟨-,-,⟨s0,s1,s2,s3⟩,-⟩:=(show ∀ W,Kb 0 w3 W→_ from HCV) V1 k3S
    have HS:=sp_small z2 V1
    obtain ⟨mm2,hmm⟩:∃ m,m=dc (Sml z2):=⟨_,rfl⟩
    rw [← hmm] at HS
    clear k3S kS hYD hzD bY bS hmm
    go_upto_region 25 with (go_at_call 17;refine HS.mono ?_;rintro e x5 ⟨rfl,k5⟩;have b5:=blk_kb (show _∧_∧_∧_∧_∧_ from HQ2).2.2.2.2.2 k5;have g0:x5.cell? ⟨D,2,none⟩=some (.int .i64 0):=cell_of b5 rfl;have gz:∀ j,x5.frozen? ⟨D,j,none⟩=false:=fun j=>frozen_of b5)
    clear HS x1 s0 s1 s2 s3 g0 gz
    generalize hV:World.setCell _ _ _=V2
    obtain ⟨k3S,kS,hYD,hzD,bY,bS⟩:=(show Kb 0 w3 V1∧Kb 0 wX V1∧Y < D∧wX.heap.size=D∧wX.heap[Y]? = some (.cells #[.int .i64 ft,.slice (some ac) 4 dc1] 50 (0,0))∧V1.heap[D]? = some (.cells #[.int .i64 z0.m,.int .i64 z1.m,.int .i64 0,.string ⟨#[]⟩] 38 (0,0)) from HQ2)
    have bV:V2.heap[D]? = some (.cells #[.int .i64 z0.m,.int .i64 z1.m,.int .i64 z2.m,.string ⟨#[]⟩] 38 (0,0)):=by rw [← hV];exact set_known _ b5
    have kV:Kb 0 wX V2:=by rw [← hV];exact (kS.trans k5).setCell _ (.inr (Nat.le_of_eq hzD)) _
    have HQ3:Hid (Kb 0 w3 V2∧Kb 0 wX V2∧Y < D∧wX.heap.size=D∧wX.heap[Y]? = some (.cells #[.int .i64 ft,.slice (some ac) 4 dc1] 50 (0,0))∧V2.heap[D]? = some (.cells #[.int .i64 z0.m,.int .i64 z1.m,.int .i64 z2.m,.string ⟨#[]⟩] 38 (0,0))):=(⟨((show _∧_ from HKR).1.trans (show _∧Kb 0 wr wX∧_ from HKR).2.1).trans kV,kV,hYD,hzD,bY,bV⟩:_∧_)
    clear hV k3S kS hYD hzD bY bS bV kV b5 k5 HQ2
    obtain ⟨k3S,kS,hYD,hzD,bY,bS⟩:=(show Kb 0 w3 V2∧Kb 0 wX V2∧Y < D∧wX.heap.size=D∧wX.heap[Y]? = some (.cells #[.int .i64 ft,.slice (some ac) 4 dc1] 50 (0,0))∧V2.heap[D]? = some (.cells #[.int .i64 z0.m,.int .i64 z1.m,.int .i64 z2.m,.string ⟨#[]⟩] 38 (0,0)) from HQ3)
    have x1:V2.cell? ⟨Y,1,none⟩=some (.slice (some ac) 4 dc1):=cell_of (blk_kb bY kS) rfl
    obtain ⟨-,-,-,g2⟩:=(show ∀ W,Kb 0 w3 W→_ from HCV) V2 k3S
    have t3:V2.cell? ⟨D,3,none⟩=some (.string ⟨#[]⟩):=cell_of bS rfl
    have gz:∀ j,V2.frozen? ⟨D,j,none⟩=false:=fun j=>frozen_of bS
    clear HCV
    go_upto_region 26 with fail
    clear x1 g2 t3 gz
    generalize hV:World.setCell _ _ _=V3
    have bV:V3.heap[D]? = some (.cells #[.int .i64 z0.m,.int .i64 z1.m,.int .i64 z2.m,.string z3.x] 38 (0,0)):=by rw [← hV];exact set_known _ bS
    have kV:Kb 0 wX V3:=by rw [← hV];exact kS.setCell _ (.inr (Nat.le_of_eq hzD)) _
    obtain ⟨kwr,kX,hX⟩:=(show Kb 0 w3 wr∧Kb 0 wr wX∧SJn w11 B p q (.slice pl n1 cl) (jmF N F).T i (.slice px i cx) wr from HKR)
    have hZ:=(hX.kb kX).kb kV
    have c3:V3.cell? ⟨B,3,none⟩=some (.slice px i cx):=cell_of hZ.lb rfl
    have c5:V3.cell? ⟨D,0,none⟩=some (.int .i64 z0.m):=cell_of bV rfl
    have c6:V3.cell? ⟨D,1,none⟩=some (.int .i64 z1.m):=cell_of bV rfl
    have c7:V3.cell? ⟨D,2,none⟩=some (.int .i64 z2.m):=cell_of bV rfl
    have c8:V3.cell? ⟨D,3,none⟩=some (.string z3.x):=cell_of bV rfl
    have HPU:Hid (∀ W w8 v',Kb 0 V3 W→w8.ownsRow w11.heap.size 38 4 v' (i+1) (sls (jmF N F).T i ++ [.int .i64 z0.m,.int .i64 z1.m,.int .i64 z2.m,.string z3.x])→W.grownBy w8 (Value.slice px i cx).ownBlock→w8.cell? ⟨B,3,none⟩=some (.slice px i cx)∧(∀ j,w8.frozen? ⟨B,j,none⟩=false)∧SJn w11 B p q (.slice pl n1 cl) (jmF N F).T (i+1) v' (w8.setCell ⟨B,3,none⟩ v')):=(fun W w8 v' kk ho hg=>⟨cell_of ((hZ.kb kk).grown hg).2 rfl,fun j=>frozen_of ((hZ.kb kk).grown hg).2,(hZ.kb kk).push (by rw [show ([.int .i64 ((jmF N F).T i).k,.int .i64 ((jmF N F).T i).m,.int .i64 ((jmF N F).T i).r,.string ((jmF N F).T i).x]:List Value) = _ from HTI];exact ho) hg⟩:∀ W w8 v',_)
    have HOW:Hid (V3.ownsRow w11.heap.size 38 4 (.slice px i cx) i (sls (jmF N F).T i)∧w11.heap.size≤V3.heap.size):=(⟨hZ.ow,hZ.kg.size⟩:_∧_)
    obtain ⟨i0,hi0,hz0,hz1,hz2⟩:=info_parts infoSt
    have HI0:Hid (Try.prog.info? 38=some i0):=hi0
    have h1c:Hid (∀ y ∈ ([.int .i64 z0.m,.int .i64 z1.m,.int .i64 z2.m,.string z3.x]:List Value),y.oneCell'=true):=(by
     intro y hy
     simp only [List.mem_cons,List.not_mem_nil,or_false] at hy
     rcases hy with rfl | rfl | rfl | rfl <;> rfl:∀ y ∈ ([.int .i64 z0.m,.int .i64 z1.m,.int .i64 z2.m,.string z3.x]:List Value),y.oneCell'=true)
    have HQC:Hid (∀ (k:Nat) (y:Value),([.int .i64 z0.m,.int .i64 z1.m,.int .i64 z2.m,.string z3.x]:List Value)[k]? = some y→(V3.alloc (.cells #[.int .i64 z0.m,.int .i64 z1.m,.int .i64 z2.m,.string z3.x] 38)).cell? ((⟨V3.heap.size,0,none⟩:Addr).add k)=some y):=(qr_cells V3 #[.int .i64 z0.m,.int .i64 z1.m,.int .i64 z2.m,.string z3.x] 38 [.int .i64 z0.m,.int .i64 z1.m,.int .i64 z2.m,.string z3.x] rfl:∀ (k:Nat) (y:Value),_)
    have HKA:Hid (∀ ob,Kb 0 V3 (V3.alloc ob)):=(fun ob=>kb_alloc _ _ _:∀ ob,_)
    obtain ⟨LS0,hLS0⟩:∃ LS0,LS0=sls (jmF N F).T i:=⟨_,rfl⟩
    rw [← hLS0] at HOW HPU
    clear hX hi0 kwr kX hZ bV kV hV k3S kS hYD hzD bY bS hLS0 HTI HKR HKS HQ3
    go_wp2_with (refine wpList_append_own _ (by rfl) (.tmp 135) (.tmp 137) 24 (by rfl) w11.heap.size 38 i0 (.agg #[.int .i64 0,.int .i64 0,.int .i64 0,.string ⟨#[]⟩]) 4 40 Try.underlying24 HI0 hz0 hz1 hz2 rfl (by decide) (.slice px i cx) i LS0 (by rfl) ((show _∧_ from HOW).1.alloc _) ⟨V3.heap.size,0,none⟩ 1 1 [.int .i64 z0.m,.int .i64 z1.m,.int .i64 z2.m,.string z3.x] (by rfl) rfl (show ∀ (k:Nat) (y:Value),_ from HQC) (show ∀ y ∈ _,_ from h1c) (by unfold maxLen;omega) (by omega) (by have:=(show _∧_ from HOW).2;simp;omega) ?_;intro v' w8 hown1 hgrow1 _;obtain ⟨px',cx',rfl⟩:=own_shape hown1;obtain ⟨hS8,hf8,hLS8⟩:=(show ∀ W w8 v',Kb 0 V3 W→_ from HPU) _ _ _ ((show ∀ ob,_ from HKA) _) hown1 hgrow1;replace hLS8:Hid (SJn w11 B p q (.slice pl n1 cl) (jmF N F).T (i+1) (.slice px' (i+1) cx') (w8.setCell ⟨B,3,none⟩ (.slice px' (i+1) cx'))∧∀ k,k < i+1→(F (3+k)).c=4):=(⟨hLS8,HF4⟩:_∧_);clear HPU hown1 hgrow1 HOW HQC HKA c3 c5 c6 c7 c8)
    go_roundw
    case rel=>exact ⟨i+1,_,by go_num,by omega,hLS8⟩
    case measure=>simp [intOf];omega
   obtain rfl:i=n2:=by omega
   have hI2:¬ (i:Int) < (i:Int):=by omega
   obtain ⟨k311,hB3,hBl,ow1,k13,hz31,hn1⟩:=(show Kb 0 w3 w11∧w3.heap.size=B∧B < w11.heap.size∧w11.ownsRow (B+1) 9 1 (.slice pl n1 cl) n1 (stl (jmF N F).S n1)∧Kb 0 w1 w3∧w.heap.size+2≤w3.heap.size∧n1=(F 1).c from H11)
   have hn2:=(show i=N - 3∧_ from HN2).1
   obtain ⟨hp,hq,hN3,h04,hs0,hs1⟩:=(show p=(jmF N F).p∧q=(jmF N F).q∧3≤N∧(F 0).c=4∧Sml (zat F 0 0)∧Sml (zat F 0 1) from HPQ)
   have hCm:CmF N F:=⟨hN3,h04,hs0,hs1,fun k h3 hk=>by
    have:=hF4 (k - 3) (by omega)
    rwa [show 3+(k - 3)=k by omega] at this⟩
   obtain ⟨J,hJ⟩:∃ J,J=jmF N F:=⟨_,rfl⟩
   have hJn:J.n=n1:=by rw [hJ,hn1];rfl
   have hJm:J.m=i:=by rw [hJ,hn2];rfl
   have hJx:∀ k,(J.T k).x.size≤4000:=fun k=>by rw [hJ];exact (show ∀ k j,_ from HX) (3+k) 3
   rw [← hJ] at hp hq ow1 hX
   have kg:=hX.kg
   have kwr:Kb 0 w3 wr:=kg_kbo kg k311 (Nat.le_of_eq hB3)
   have hz11:=(show _∧w1.heap.size=w.heap.size+1∧_ from H1).2.1
   have o1:wr.ownsRow (w1.heap.size+2) 9 1 (.slice pl n1 cl) J.n (stl J.S J.n):=by
    rw [hJn]
    exact own_keep (own_base ow1 (by omega)) (fun g e=>kg.block g (ow1.lt g e).2 (by have:=(ow1.lt g e).1;omega))
   have o2:wr.ownsRow (w1.heap.size+2) 38 4 (.slice px i cx) J.m (sls J.T J.m):=by
    rw [hJm]
    exact own_base hX.ow (by omega)
   have hz3r:=kwr.size
   have hkgs:=kg.size
   have hx:Jx J w1.heap.size wr (.slice pl n1 cl) (.slice px i cx):=jx_of o1 o2 (by omega)
   have HI:=sp_jr (J:=J) (p1:=pl) (c1:=cl) (p2:=px) (c2:=cx) wr (by rw [hJn];have:=hx.1.1;rw [hJn] at this;exact this) (by rw [hJm];have:=hx.1.2;rw [hJm] at this;exact this) (by rw [hJn];omega) (by rw [hJm];omega) (fun k _=>by have:=hJx k;omega)
   rw [hJn,hJm,← hp,← hq] at HI
   obtain ⟨L,hL⟩:∃ L,L=jir J:=⟨_,rfl⟩
   rw [← hL] at HI
   have c0:wr.cell? ⟨B,0,none⟩=some (.slice pl n1 cl):=cell_of hX.lb rfl
   have c1:wr.cell? ⟨B,1,none⟩=some (.int .i64 p):=cell_of hX.lb rfl
   have c2:wr.cell? ⟨B,2,none⟩=some (.int .i64 q):=cell_of hX.lb rfl
   have c3:wr.cell? ⟨B,3,none⟩=some (.slice px i cx):=cell_of hX.lb rfl
   have HFN:Hid (Kb 0 w1 wr∧w.heap.size+2≤wr.heap.size∧wr.heap[B]? = some (.cells #[.slice pl n1 cl,.int .i64 p,.int .i64 q,.slice px i cx] 26 (0,0))∧B < wr.heap.size∧Jx J w1.heap.size wr (.slice pl n1 cl) (.slice px i cx)∧L=jir J∧J=jmF N F∧p=J.p∧q=J.q):=(⟨k13.trans kwr,by omega,hX.lb,blk_lt hX.lb,hx,hL,hJ,hp,hq⟩:_∧_)
   clear hX HX1 hF4 k311 hB3 hBl ow1 k13 hz31 hn1 hn2 hp hq hN3 h04 hs0 hs1 hCm hJ hJn hJm hJx kg kwr o1 o2 hz3r hkgs hz11 hx hL hi HN2 HPQ H11 HRA HZ HX HC
   go_wp2_with fail
   refine HI.mono ?_
   rintro e w6 ⟨vi,rfl,oi,k6⟩
   clear HI c0 c1 c2 c3
   obtain ⟨pi,ci,rfl⟩:=own_shape oi
   obtain ⟨k1r,hzr,br,hBr,hx,hL,hJ,hp,hq⟩:=(show Kb 0 w1 wr∧w.heap.size+2≤wr.heap.size∧wr.heap[B]? = some (.cells #[.slice pl n1 cl,.int .i64 p,.int .i64 q,.slice px i cx] 26 (0,0))∧B < wr.heap.size∧Jx J w1.heap.size wr (.slice pl n1 cl) (.slice px i cx)∧L=jir J∧J=jmF N F∧p=J.p∧q=J.q from HFN)
   obtain ⟨kw1,zw1,bw1,⟨hcap,hrow⟩,hM⟩:=(show Kb 0 w w1∧w1.heap.size=w.heap.size+1∧w1.heap[w.heap.size]? = some (.cells #[.bool false,.slice none 0 0,.int .i64 0,.int .i64 0,.slice none 0 0] 28 (0,0))∧(M.length≤c∧∀ i (x:UInt8),M[i]? = some x→w.cell? (pa.add i)=some (.int .u8 (x.toNat:Int)))∧M.length≤1048576 from H1)
   obtain ⟨hUn,hNy,hFy⟩:=(show UnM M true (a,ys)∧N=ys.length∧F=TF ys from HUN)
   have hM0:=(hUn.1 rfl).1
   have hjm:jm (a,ys)=J:=by rw [jm_F,hJ,hNy,hFy]
   have k16:=k1r.trans k6
   have kw6:=kw1.trans k16
   have hLl:L.length≤8192:=by rw [hL];exact jir_len J
   have HE:=sp_equal (D:=fun i=>((M.getD i 0).toNat:Int)) w6 (rowU_own oi) (show RowU w6 (some pa) M.length c _ from fun h0=>⟨pa,rfl,hcap,fun i hi=>by
    rw [kw6.cellA (Nat.zero_le _) (hrow i M[i] (List.getElem?_eq_getElem hi))]
    simp [List.getD,List.getElem?_eq_getElem hi]⟩) (by omega) (by omega)
   have hz6:=k6.size
   by_cases hR:L=toI M
   case neg =>
    have hd:dc (Bse L.length M.length (fun i=>L.getD i 0) (fun i=>((M.getD i 0).toNat:Int)))=false:=dc_f (fun q=>hR ((bse_iff L M).1 q))
    rw [hd] at HE
    have hRj:=rm_no2 hUn (.inr (by rw [hjm,← hL];exact hR))
    have hz6':w.heap.size+2≤w6.heap.size:=by omega
    have HEND2:Hid (∀ W,Kb 0 w6 W→(∀ j,W.frozen? ⟨w.heap.size,j,none⟩=false)∧(W.cell? ⟨w.heap.size,0,none⟩=some (.bool false)∧W.cell? ⟨w.heap.size,1,none⟩=some (.slice none 0 0)∧W.cell? ⟨w.heap.size,2,none⟩=some (.int .i64 0)∧W.cell? ⟨w.heap.size,3,none⟩=some (.int .i64 0)∧W.cell? ⟨w.heap.size,4,none⟩=some (.slice none 0 0))∧∃ WF,WF=(((((W.setCell ⟨w.heap.size,0,none⟩ (.bool false)).setCell ⟨w.heap.size,1,none⟩ (.slice none 0 0)).setCell ⟨w.heap.size,2,none⟩ (.int .i64 0)).setCell ⟨w.heap.size,3,none⟩ (.int .i64 0)).setCell ⟨w.heap.size,4,none⟩ (.slice none 0 0))∧(WF.cell? ⟨w.heap.size,0,none⟩=some (.bool false)∧WF.cell? ⟨w.heap.size,1,none⟩=some (.slice none 0 0)∧WF.cell? ⟨w.heap.size,2,none⟩=some (.int .i64 0)∧WF.cell? ⟨w.heap.size,3,none⟩=some (.int .i64 0)∧WF.cell? ⟨w.heap.size,4,none⟩=some (.slice none 0 0))∧RjM M w (.returned (.agg #[.bool false,.slice none 0 0,.int .i64 0,.int .i64 0,.slice none 0 0])) WF):=(fun W k=>(show ∀ W,Kb 0 w1 W→_ from HEND) W (k16.trans k) (by have:=k.size;omega) hRj:∀ W,_)
    clear HEND hRj hd hz6' hR hLl hz6 k16 kw6 hjm hM0 hUn hNy hFy kw1 zw1 bw1 hcap hrow hM k1r hzr br hBr hx hL hJ hp hq oi k6 H1 HFN HUN HNO
    go_wp2_with fail
    refine HE.mono ?_
    rintro e w7 ⟨rfl,d7,hw7⟩
    obtain ⟨fz,⟨c0,c1,c2,c3,c4⟩,WF,hWF,⟨e0,e1,e2,e3,e4⟩,hRM⟩:=(show ∀ W,Kb 0 w6 W→_ from HEND2) w7 (by rw [hw7];exact (Kb.refl 0 w6).drewN d7)
    have HWF:Hid (WF = _):=hWF
    have HRM:Hid (RjM M w (.returned (.agg #[.bool false,.slice none 0 0,.int .i64 0,.int .i64 0,.slice none 0 0])) WF):=hRM
    clear HE HEND2 hWF hRM hw7
    go_upto_region 29 with fail
    rename_i K0 hK0
    have HK0:KrJ M w K0:=fun a' w' h=>hK0 a' w' (wp_ret h)
    clear hK0
    refine thenJ ?_
    go_wp2_with fail
    rw [← (show WF = _ from HWF)]
    clear HWF
    refine HK0 _ _ (bodyPost_ret (by simp [results,Try.results5,go_sem,e0,e1,e2,e3,e4];rfl) rfl ?_)
    exact HRM
   have hd:dc (Bse L.length M.length (fun i=>L.getD i 0) (fun i=>((M.getD i 0).toNat:Int)))=true:=dc_t ((bse_iff L M).2 hR)
   rw [hd] at HE
   have hRj:RjA M true J:=rm_yes hUn (by rw [← hL];exact hR)
   have hMl:((M.length:Int) == 0)=false:=by
    have:M.length ≠ 0:=fun e=>hM0 (List.length_eq_zero_iff.1 e)
    simp
    omega
   have HEND2:Hid (∀ W,Kb 0 w6 W→(∀ j,W.frozen? ⟨w.heap.size,j,none⟩=false)∧(W.cell? ⟨w.heap.size,0,none⟩=some (.bool false)∧W.cell? ⟨w.heap.size,1,none⟩=some (.slice none 0 0)∧W.cell? ⟨w.heap.size,2,none⟩=some (.int .i64 0)∧W.cell? ⟨w.heap.size,3,none⟩=some (.int .i64 0)∧W.cell? ⟨w.heap.size,4,none⟩=some (.slice none 0 0))∧(W.cell? ⟨B,0,none⟩=some (.slice pl n1 cl)∧W.cell? ⟨B,1,none⟩=some (.int .i64 p)∧W.cell? ⟨B,2,none⟩=some (.int .i64 q)∧W.cell? ⟨B,3,none⟩=some (.slice px i cx))∧∃ WF,WF=(((((W.setCell ⟨w.heap.size,0,none⟩ (.bool true)).setCell ⟨w.heap.size,1,none⟩ (.slice pl n1 cl)).setCell ⟨w.heap.size,2,none⟩ (.int .i64 p)).setCell ⟨w.heap.size,3,none⟩ (.int .i64 q)).setCell ⟨w.heap.size,4,none⟩ (.slice px i cx))∧(WF.cell? ⟨w.heap.size,0,none⟩=some (.bool true)∧WF.cell? ⟨w.heap.size,1,none⟩=some (.slice pl n1 cl)∧WF.cell? ⟨w.heap.size,2,none⟩=some (.int .i64 p)∧WF.cell? ⟨w.heap.size,3,none⟩=some (.int .i64 q)∧WF.cell? ⟨w.heap.size,4,none⟩=some (.slice px i cx))∧RjM M w (.returned (.agg #[.bool true,.slice pl n1 cl,.int .i64 p,.int .i64 q,.slice px i cx])) WF):=(fun W k=>by
    have k1W:=k16.trans k
    have bW:=blk_kb bw1 k1W
    have bB:=blk_kb (blk_kb br k6) k
    have kw:=kw1.trans k1W
    have krW:=k6.trans k
    obtain ⟨WF,hWF,bF,fr,zF,oF,pF⟩:=five_set (.bool true) (.slice pl n1 cl) (.int .i64 p) (.int .i64 q) (.slice px i cx) bW
    obtain ⟨hjr,g,b,ho⟩:=hx
    have h1:=ho.hg
    have h2:=ho.hb
    have hrs:=krW.size
    have hws:w.heap.size < wr.heap.size:=by omega
    have hfr:∀ r,r ≠ w.heap.size→r < wr.heap.size→WF.heap[r]? = wr.heap[r]?:=fun r h1 h2=>(fr r h1).trans (krW.block r (Nat.zero_le _) h2)
    have hgn:g ≠ w.heap.size:=by omega
    have hbn:b ≠ w.heap.size:=by omega
    refine ⟨fun j=>frozen_of bW,⟨cell_of bW rfl,cell_of bW rfl,cell_of bW rfl,cell_of bW rfl,cell_of bW rfl⟩,⟨cell_of bB rfl,cell_of bB rfl,cell_of bB rfl,cell_of bB rfl⟩,WF,hWF,⟨cell_of bF rfl,cell_of bF rfl,cell_of bF rfl,cell_of bF rfl,cell_of bF rfl⟩,true,J,_,_,by rw [hp,hq],hRj,⟨jo_row ho hjr (fun r hr1 hr2=>hfr r (by omega) hr2),g,b,ho.l.block (fun _=>hfr g hgn h1.2),ho.s.block (fun _=>hfr b hbn h2.2),⟨by omega,by omega⟩,⟨by omega,by omega⟩,ho.ne⟩,⟨oF.trans kw.os,pF.trans kw.output,by have:=kw.size;omega,fun g _ hg=>(fr g (by omega)).trans (kw.block g (Nat.zero_le _) hg)⟩⟩:∀ W,_)
   clear HEND hRj hd hR hLl hz6 k16 kw6 hjm hM0 hUn hNy hFy kw1 zw1 bw1 hcap hrow hM k1r hzr br hBr hx hL hJ hp hq oi k6 H1 HFN HUN HNO
   go_wp2_with fail
   refine HE.mono ?_
   rintro e w7 ⟨rfl,d7,hw7⟩
   obtain ⟨fz,⟨c0,c1,c2,c3,c4⟩,⟨y0,y1,y2,y3⟩,WF,hWF,⟨e0,e1,e2,e3,e4⟩,hRM⟩:=(show ∀ W,Kb 0 w6 W→_ from HEND2) w7 (by rw [hw7];exact (Kb.refl 0 w6).drewN d7)
   have HWF:Hid (WF = _):=hWF
   have HRM:Hid (RjM M w (.returned (.agg #[.bool true,.slice pl n1 cl,.int .i64 p,.int .i64 q,.slice px i cx])) WF):=hRM
   clear HE HEND2 hWF hRM hw7
   go_upto_region 30 with fail
   rename_i K0 hK0
   have HK0:KrJ M w K0:=fun a' w' h=>hK0 a' w' (wp_ret h)
   clear hK0
   refine thenJ ?_
   go_wp2_with fail
   rw [← (show WF = _ from HWF)]
   clear HWF
   refine HK0 _ _ (bodyPost_ret (by simp [results,Try.results5,go_sem,e0,e1,e2,e3,e4];rfl) rfl ?_)
   exact HRM
end Go.Proofs.Ytamcnmnaadpfoaa.Fo
