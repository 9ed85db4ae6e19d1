import Derived.Test.YtamcnmnaadpfoaaFUbb
import Derived.Test.YtamcnmnaadpfoaaFGed
import Derived.Test.YtamcnmnaadpfoaaFJrb
import Derived.Test.YtamcnmnaadpfoaaFJri
import Derived.Test.YtamcnmnaadpfoaaFGdf
import Derived.Test.YtamcnmnaadpfoaaFXdr
import Derived.Test.YtamcnmnaadpfoaaFXkb
set_option maxHeartbeats 32000000
namespace Go.Proofs.Ytamcnmnaadpfoaa.Fo
open Go.ChangeShapes Go.WideShapes Go.ChangeAt Go.RowKit
set_option linter.unusedVariables false
set_option maxRecDepth 100000
theorem bytes_of {n:Nat} {A:Nat→Int} (hA:∀ i,i < n→0≤A i∧A i≤255):∃ M:List UInt8,M.length=n∧∀ i (x:UInt8),M[i]? = some x→A i=(x.toNat:Int):=by
 refine ⟨(List.range n).map (fun i=>UInt8.ofNat (A i).toNat),by simp,fun i x hx=>?_⟩
 have hi:i < n:=by
  rcases Nat.lt_or_ge i n with h | h
  ·exact h
  ·rw [List.getElem?_eq_none (by simp;omega)] at hx
   cases hx
 simp [hi] at hx
 subst hx
 have:=hA i hi
 simp
 omega
theorem im_rj {p : Option Addr} {c : Nat} {M : List UInt8} (w : World) (ha : Arg p c M w) (hM : M.length ≤ 1048576) :
  Calls Try.prog 7 #[.slice p M.length c] w (RjM M w):=by
 obtain ⟨w1,hw1⟩:∃ w1,w1=w.alloc (.cells #[.bool false,.slice none 0 0,.int .i64 0,.int .i64 0,.slice none 0 0] 28):=⟨_,rfl⟩
 have k1:Kb 0 w w1:=by rw [hw1];exact kb_alloc _ _ _
 have z1:w1.heap.size=w.heap.size+1:=by rw [hw1];simp
 have b1:w1.heap[w.heap.size]? = some (.cells #[.bool false,.slice none 0 0,.int .i64 0,.int .i64 0,.slice none 0 0] 28 (0,0)):=by rw [hw1];exact alloc_new _ _ _
 have HU:Calls Try.prog 20 #[.slice p M.length c] w1 (UnA M w1):=by
  rcases Nat.lt_or_ge 8192 M.length with h | h
  ·exact im_unpack_long hM h
  ·exact im_unpack (ha.keep k1) h
 have H1:Hid (Kb 0 w w1∧w1.heap.size=w.heap.size+1∧w1.heap[w.heap.size]? = some (.cells #[.bool false,.slice none 0 0,.int .i64 0,.int .i64 0,.slice none 0 0] 28 (0,0))∧Arg p c M w∧M.length≤1048576):=(⟨k1,z1,b1,ha,hM⟩:_∧_)
 have HW:Hid (w1=w.alloc (.cells #[.bool false,.slice none 0 0,.int .i64 0,.int .i64 0,.slice none 0 0] 28)):=hw1
 have HEND:Hid (∀ W,Kb 0 w1 W→w.heap.size+2≤W.heap.size→RjA M false j0→(∀ j,W.frozen? ⟨w.heap.size,j,none⟩=false)∧(W.cell? ⟨w.heap.size,0,none⟩=some (.bool false)∧W.cell? ⟨w.heap.size,1,none⟩=some (.slice none 0 0)∧W.cell? ⟨w.heap.size,2,none⟩=some (.int .i64 0)∧W.cell? ⟨w.heap.size,3,none⟩=some (.int .i64 0)∧W.cell? ⟨w.heap.size,4,none⟩=some (.slice none 0 0))∧∃ WF,WF=(((((W.setCell ⟨w.heap.size,0,none⟩ (.bool false)).setCell ⟨w.heap.size,1,none⟩ (.slice none 0 0)).setCell ⟨w.heap.size,2,none⟩ (.int .i64 0)).setCell ⟨w.heap.size,3,none⟩ (.int .i64 0)).setCell ⟨w.heap.size,4,none⟩ (.slice none 0 0))∧(WF.cell? ⟨w.heap.size,0,none⟩=some (.bool false)∧WF.cell? ⟨w.heap.size,1,none⟩=some (.slice none 0 0)∧WF.cell? ⟨w.heap.size,2,none⟩=some (.int .i64 0)∧WF.cell? ⟨w.heap.size,3,none⟩=some (.int .i64 0)∧WF.cell? ⟨w.heap.size,4,none⟩=some (.slice none 0 0))∧RjM M w (.returned (.agg #[.bool false,.slice none 0 0,.int .i64 0,.int .i64 0,.slice none 0 0])) WF):=(fun W k hz hR=>by
  have bW:=blk_kb b1 k
  obtain ⟨WF,hWF,bF,fr,zF,oF,pF⟩:=five_set (.bool false) (.slice none 0 0) (.int .i64 0) (.int .i64 0) (.slice none 0 0) bW
  have kw:=k1.trans k
  exact ⟨fun j=>frozen_of bW,⟨cell_of bW rfl,cell_of bW rfl,cell_of bW rfl,cell_of bW rfl,cell_of bW rfl⟩,WF,hWF,⟨cell_of bF rfl,cell_of bF rfl,cell_of bF rfl,cell_of bF rfl,cell_of bF rfl⟩,false,j0,_,_,rfl,hR,jx_nil (by omega),⟨oF.trans kw.os,pF.trans kw.output,by have:=kw.size;omega,fun g _ hg=>(fr g (by omega)).trans (kw.block g (Nat.zero_le _) hg)⟩⟩:∀ W,_)
 have hMI:(M.length:Int)≤1048576:=by omega
 clear ha hM hw1 k1 z1 b1
 go_enter Try.func7,Try.ntmps7
 go_upto_region 1 with fail
 rw [← (show w1 = _ from HW)]
 clear HW
 go_wp2_with fail
 refine HU.mono ?_
 rintro e w2 ⟨ok,a,v,L,rfl,hv,hO,hT,hR,hL,hUn,k2⟩
 clear HU
 obtain ⟨pn,cn,rfl⟩:=own_shape hv
 obtain ⟨w3,hw3⟩:∃ w3,w3=w2.alloc (.cells #[.bool ok,.int .i64 a.k,.int .i64 a.m,.string a.x,.int .i64 a.r,.slice pn L.length cn] 46):=⟨_,rfl⟩
 have k3:Kb 0 w2 w3:=by rw [hw3];exact kb_alloc _ _ _
 have z3:w3.heap.size=w2.heap.size+1:=by rw [hw3];simp
 have b3:w3.heap[w2.heap.size]? = some (.cells #[.bool ok,.int .i64 a.k,.int .i64 a.m,.string a.x,.int .i64 a.r,.slice pn L.length cn] 46 (0,0)):=by rw [hw3];exact alloc_new _ _ _
 obtain ⟨U,hU⟩:∃ U,U=w2.heap.size:=⟨_,rfl⟩
 rw [← hU] at b3
 have u0:w3.cell? ⟨U,0,none⟩=some (.bool ok):=cell_of b3 rfl
 have hz2:=k2.size
 have HW3:Hid (w3=w2.alloc (.cells #[.bool ok,.int .i64 a.k,.int .i64 a.m,.string a.x,.int .i64 a.r,.slice pn L.length cn] 46)∧U=w2.heap.size):=(⟨hw3,hU⟩:_∧_)
 cases ok
 case false =>
  obtain ⟨fz,⟨c0,c1,c2,c3,c4⟩,WF,hWF,⟨e0,e1,e2,e3,e4⟩,hRM⟩:=(show ∀ W,Kb 0 w1 W→_ from HEND) w3 (k2.trans k3) (by have:=(show _∧w1.heap.size=w.heap.size+1∧_ from H1).2.1;omega) (rj_no1 hUn)
  have HWF:Hid (WF = _):=hWF
  have HRM:Hid (RjM M w (.returned (.agg #[.bool false,.slice none 0 0,.int .i64 0,.int .i64 0,.slice none 0 0])) WF):=hRM
  clear hv hO hT hR hL hUn k2 k3 z3 b3 hw3 hU hz2 hWF hRM HEND H1
  go_upto_region 2 with fail
  rw [← (show _∧_ from HW3).1,← (show _∧_ from HW3).2]
  clear HW3
  go_wp2_with fail
  rw [← (show WF = _ from HWF)]
  clear HWF
  refine bodyPost_ret (by simp [results,Try.results7,go_sem,e0,e1,e2,e3,e4];rfl) rfl ?_
  exact HRM
 obtain ⟨ys,hys⟩:∃ ys,ys=L.map (·.1):=⟨_,rfl⟩
 have hlen:ys.length=L.length:=by rw [hys];simp
 have hrow:RowT 0 w3 (.slice pn L.length cn) ys.length (TF ys):=by
  have:=(rowT_of9 hv hO).keep k3
  rw [hlen,hys]
  exact this
 rw [← hys] at hUn
 obtain ⟨hMn,hRg,hpk,hun⟩:=hUn.1 rfl
 have hG:Gok ys.length (TF ys) a:=(pck_read hRg hpk hMn).1
 have HJ:=im_jin w3 hlen hrow hG
 have d1:w3.cell? ⟨U,1,none⟩=some (.int .i64 a.k):=cell_of b3 rfl
 have d2:w3.cell? ⟨U,2,none⟩=some (.int .i64 a.m):=cell_of b3 rfl
 have d3:w3.cell? ⟨U,3,none⟩=some (.string a.x):=cell_of b3 rfl
 have d4:w3.cell? ⟨U,4,none⟩=some (.int .i64 a.r):=cell_of b3 rfl
 have d5:w3.cell? ⟨U,5,none⟩=some (.slice pn L.length cn):=cell_of b3 rfl
 have HU2:Hid (UnR M true (a,ys)):=hUn
 have HGG:Hid (Gok ys.length (TF ys) a):=hG
 have H3:Hid (Kb 0 w1 w3∧w1.heap.size < w3.heap.size):=(⟨k2.trans k3,by omega⟩:_∧_)
 unfold grv at HJ
 clear hv hO hT hR hL hUn k2 k3 z3 b3 hw3 hU hz2 hys hlen hrow hMn hRg hpk hun hG
 generalize hJe:jpF (TF ys)=J at HJ
 have HJE:Hid (jpF (TF ys)=J):=hJe
 clear hJe
 go_upto_region 2 with fail
 rw [← (show _∧_ from HW3).1,← (show _∧_ from HW3).2]
 clear HW3
 go_wp2_with fail
 refine HJ.mono ?_
 rintro e w4 ⟨v,u,rfl,hx,k4⟩
 clear HJ u0 d1 d2 d3 d4 d5
 obtain ⟨pv,cv,rfl,-⟩:=id hx.1.1
 obtain ⟨pu,cu,rfl,-⟩:=id hx.1.2
 obtain ⟨w5,hw5⟩:∃ w5,w5=w4.alloc (.cells #[.slice pv J.n cv,.int .i64 J.p,.int .i64 J.q,.slice pu J.m cu] 26):=⟨_,rfl⟩
 obtain ⟨V,hVe⟩:∃ V,V=w4.heap.size:=⟨_,rfl⟩
 have k5:Kb 0 w4 w5:=by rw [hw5];exact kb_alloc _ _ _
 have b5:w5.heap[V]? = some (.cells #[.slice pv J.n cv,.int .i64 J.p,.int .i64 J.q,.slice pu J.m cu] 26 (0,0)):=by rw [hw5,hVe];exact alloc_new _ _ _
 have hr5:=hx.1.keep k5
 have hG:=(show Gok ys.length (TF ys) a from HGG)
 have hJn:J.n≤300:=by rw [← (show jpF (TF ys)=J from HJE)];exact tf_c hG 1
 have hJm:J.m≤300:=by rw [← (show jpF (TF ys)=J from HJE)];exact tf_c hG 2
 have HI:=im_jr w5 hr5.1 hr5.2 (by omega) (by omega) (fun i hi=>by
  have h4:(J.T i).x.size≤4000:=by rw [← (show jpF (TF ys)=J from HJE)];exact zat_x hG _ 3
  omega)
 have j0':w5.cell? ⟨V,0,none⟩=some (.slice pv J.n cv):=cell_of b5 rfl
 have j1':w5.cell? ⟨V,1,none⟩=some (.int .i64 J.p):=cell_of b5 rfl
 have j2':w5.cell? ⟨V,2,none⟩=some (.int .i64 J.q):=cell_of b5 rfl
 have j3':w5.cell? ⟨V,3,none⟩=some (.slice pu J.m cu):=cell_of b5 rfl
 obtain ⟨R,hRb⟩:∃ R:List UInt8,jir J=toI R:=by
  unfold jir
  split
  ·exact pck_bytes _ _ _
  ·exact ⟨[],rfl⟩
 have H5:Hid (Jx J w3.heap.size w4 (.slice pv J.n cv) (.slice pu J.m cu)∧Kb 0 w3 w4∧Kb 0 w4 w5∧w5.heap[V]? = some (.cells #[.slice pv J.n cv,.int .i64 J.p,.int .i64 J.q,.slice pu J.m cu] 26 (0,0))∧jir J=toI R∧V=w4.heap.size):=(⟨hx,k4,k5,b5,hRb,hVe⟩:_∧_)
 have HW5:Hid (w5=w4.alloc (.cells #[.slice pv J.n cv,.int .i64 J.p,.int .i64 J.q,.slice pu J.m cu] 26)∧V=w4.heap.size):=(⟨hw5,hVe⟩:_∧_)
 rw [hRb] at HI
 clear hx k4 hw5 hVe k5 b5 hr5 hG hRb
 go_upto_region 5 with fail
 rw [← (show _∧_ from HW5).1,← (show _∧_ from HW5).2]
 clear HW5
 go_wp2_with fail
 refine HI.mono ?_
 rintro e w6 ⟨vi,rfl,oi,k6⟩
 clear HI
 obtain ⟨pi,ci,rfl⟩:=own_shape oi
 obtain ⟨kw1,zw1,bw1,ha,hM⟩:=(show Kb 0 w w1∧w1.heap.size=w.heap.size+1∧w1.heap[w.heap.size]? = some (.cells #[.bool false,.slice none 0 0,.int .i64 0,.int .i64 0,.slice none 0 0] 28 (0,0))∧Arg p c M w∧M.length≤1048576 from H1)
 obtain ⟨k13,z13⟩:=(show Kb 0 w1 w3∧w1.heap.size < w3.heap.size from H3)
 obtain ⟨hx,k4,k5,b5,hRb,hVe⟩:=(show Jx J w3.heap.size w4 (.slice pv J.n cv) (.slice pu J.m cu)∧Kb 0 w3 w4∧Kb 0 w4 w5∧w5.heap[V]? = some (.cells #[.slice pv J.n cv,.int .i64 J.p,.int .i64 J.q,.slice pu J.m cu] 26 (0,0))∧jir J=toI R∧V=w4.heap.size from H5)
 have k36:=(k4.trans k5).trans k6
 have k16:=k13.trans k36
 have kw6:=kw1.trans k16
 have HE:=im_bytes_equal w6 (conv_pck (R:=R) oi) (ha.keep kw6).conv
 have b6:=blk_kb b5 k6
 have hUn:=(show UnR M true (a,ys) from HU2)
 have hJp:jp (a,ys)=J:=(jp_F a ys).trans (show jpF (TF ys)=J from HJE)
 have hz36:=k36.size
 by_cases hq:R=M
 case neg =>
  have hRj:RjA M false j0:=rj_no2 hUn (by rw [hJp,hRb];exact fun h=>hq (toI_inj h))
  obtain ⟨fz,⟨c0,c1,c2,c3,c4⟩,WF,hWF,⟨e0,e1,e2,e3,e4⟩,hRM⟩:=(show ∀ W,Kb 0 w1 W→_ from HEND) w6 k16 (by omega) hRj
  have HWF:Hid (WF = _):=hWF
  have HRM:Hid (RjM M w (.returned (.agg #[.bool false,.slice none 0 0,.int .i64 0,.int .i64 0,.slice none 0 0])) WF):=hRM
  rw [decide_eq_false hq] at HE
  generalize (toI R).length=RL at HE ⊢
  clear oi k6 kw1 zw1 bw1 ha hM k13 z13 hx k4 k5 b5 hRb hVe k36 k16 kw6 b6 hUn hJp hz36 hq hRj hWF hRM HEND H1 H3 H5 HU2 HGG HJE hJn hJm j0' j1' j2' j3'
  go_wp2_with fail
  refine HE.mono ?_
  rintro e w7 ⟨rfl,rfl⟩
  clear HE
  go_wp2_with fail
  rw [← (show WF = _ from HWF)]
  clear HWF
  refine bodyPost_ret (by simp [results,Try.results7,go_sem,e0,e1,e2,e3,e4];rfl) rfl ?_
  exact HRM
 have hRj:RjA M true J:=rj_yes hUn (by rw [hRb,hq])
 have bw6:=blk_kb bw1 k16
 have fz:∀ j,w6.frozen? ⟨w.heap.size,j,none⟩=false:=fun j=>frozen_of bw6
 have c0:w6.cell? ⟨w.heap.size,0,none⟩=some (.bool false):=cell_of bw6 rfl
 have c1:w6.cell? ⟨w.heap.size,1,none⟩=some (.slice none 0 0):=cell_of bw6 rfl
 have c2:w6.cell? ⟨w.heap.size,2,none⟩=some (.int .i64 0):=cell_of bw6 rfl
 have c3:w6.cell? ⟨w.heap.size,3,none⟩=some (.int .i64 0):=cell_of bw6 rfl
 have c4:w6.cell? ⟨w.heap.size,4,none⟩=some (.slice none 0 0):=cell_of bw6 rfl
 have y0:w6.cell? ⟨V,0,none⟩=some (.slice pv J.n cv):=cell_of b6 rfl
 have y1:w6.cell? ⟨V,1,none⟩=some (.int .i64 J.p):=cell_of b6 rfl
 have y2:w6.cell? ⟨V,2,none⟩=some (.int .i64 J.q):=cell_of b6 rfl
 have y3:w6.cell? ⟨V,3,none⟩=some (.slice pu J.m cu):=cell_of b6 rfl
 obtain ⟨WF,hWF,bF,fr,zF,oF,pF⟩:=five_set (.bool true) (.slice pv J.n cv) (.int .i64 J.p) (.int .i64 J.q) (.slice pu J.m cu) bw6
 have e0:WF.cell? ⟨w.heap.size,0,none⟩=some (.bool true):=cell_of bF rfl
 have e1:WF.cell? ⟨w.heap.size,1,none⟩=some (.slice pv J.n cv):=cell_of bF rfl
 have e2:WF.cell? ⟨w.heap.size,2,none⟩=some (.int .i64 J.p):=cell_of bF rfl
 have e3:WF.cell? ⟨w.heap.size,3,none⟩=some (.int .i64 J.q):=cell_of bF rfl
 have e4:WF.cell? ⟨w.heap.size,4,none⟩=some (.slice pu J.m cu):=cell_of bF rfl
 have k46:=k5.trans k6
 have hRM:RjM M w (.returned (.agg #[.bool true,.slice pv J.n cv,.int .i64 J.p,.int .i64 J.q,.slice pu J.m cu])) WF:=by
  obtain ⟨hjr,g,b,ho⟩:=hx
  have hz46:=k46.size
  have hkk:∀ q,w3.heap.size≤q→q < w4.heap.size→WF.heap[q]? = w4.heap[q]?:=fun q h1 h2=>(fr q (by omega)).trans (k46.block q (Nat.zero_le _) h2)
  have h1:=ho.hg
  have h2:=ho.hb
  exact ⟨true,J,_,_,rfl,hRj,⟨jo_row ho hjr hkk,g,b,ho.l.block (fun _=>hkk g h1.1 h1.2),ho.s.block (fun _=>hkk b h2.1 h2.2),⟨by omega,by omega⟩,⟨by omega,by omega⟩,ho.ne⟩,⟨oF.trans kw6.os,pF.trans kw6.output,by have:=kw6.size;omega,fun g _ hg=>(fr g (by omega)).trans (kw6.block g (Nat.zero_le _) hg)⟩⟩
 have HWF:Hid (WF = _):=hWF
 have HRM:Hid (RjM M w (.returned (.agg #[.bool true,.slice pv J.n cv,.int .i64 J.p,.int .i64 J.q,.slice pu J.m cu])) WF):=hRM
 rw [decide_eq_true hq] at HE
 generalize (toI R).length=RL at HE ⊢
 clear oi k6 kw1 zw1 bw1 ha hM k13 z13 hx k4 k5 b5 hRb hVe k36 k16 kw6 b6 hUn hJp hz36 hq hRj hWF hRM HEND H1 H3 H5 HU2 HGG HJE hJn hJm j0' j1' j2' j3' bw6 bF fr zF oF pF k46
 obtain ⟨n,S,p',q',m,T⟩:=J
 dsimp only at *
 go_wp2_with fail
 refine HE.mono ?_
 rintro e w7 ⟨rfl,rfl⟩
 clear HE
 go_wp2_with fail
 rw [← (show WF = _ from HWF)]
 clear HWF
 refine bodyPost_ret (by simp [results,Try.results7,go_sem,e0,e1,e2,e3,e4];rfl) rfl ?_
 exact HRM
def ByR (w:World) (v:Value):Prop:=∃ M:List UInt8,M.length≤8192∧((v = .slice none 0 0∧M = [])∨∃ (a:Addr) (c:Nat),v = .slice (some a) M.length c∧M.length≤c∧a.block < w.heap.size∧∀ i (x:UInt8),M[i]? = some x→w.cell? (a.add i)=some (.int .u8 (x.toNat:Int)))
theorem byr_of {w:World} {a:Addr} {n c:Nat} {A:Nat→Int} (hn:n≤8192) (hc:n≤c) (hb:a.block < w.heap.size) (hx:∀ i,i < n→w.cell? (a.add i)=some (.int .u8 (A i))) (hA:∀ i,i < n→0≤A i∧A i≤255):ByR w (.slice (some a) n c):=by
 obtain ⟨M,rfl,hM⟩:=bytes_of hA
 exact ⟨M,hn,.inr ⟨a,c,rfl,hc,hb,fun i x e=>by rw [hx i (List.getElem?_eq_some_iff.1 e).1,hM i x e]⟩⟩
theorem BwT.byr {B:Nat} {w:World} {v:Value} (h:BwT B w v):ByR w v:=by
 obtain ⟨l,h1,h2,h3⟩:=h
 by_cases h0 : 0 < l.length
 ·obtain ⟨g,cap,cur,rfl,_,_,hgz,hcap,_,hcell⟩:=own_blk h3 h0
  refine byr_of (A:=fun i=>l.getD i 0) h2 hcap hgz (fun i hi=>?_) (bok_getD h1)
  rw [addr0,hcell i (by omega)]
  show (l.map _)[i]? = _
  rw [List.getElem?_map,List.getD_eq_getElem?_getD,List.getElem?_eq_getElem hi]
  rfl
 ·have e0:l.length=0:=by omega
  rw [e0] at h3
  rcases h3.2 with ⟨q,e⟩ | ⟨g,cap,cur,q,_,q3,_⟩
  ·exact ⟨[],by simp,.inl ⟨by first | exact e | exact q,rfl⟩⟩
  ·rw [q]
   exact ⟨[],by simp,.inr ⟨⟨g,0,none⟩,cap,rfl,Nat.zero_le _,(Array.getElem?_eq_some_iff.1 q3).1,fun i x hx=>by simp at hx⟩⟩
theorem byr_both {w:World} {v:Value} (h:ByR w v):∃ M:List UInt8,M.length≤8192∧(∀ W,Kb 0 w W→Calls Try.prog 5 #[v] W (RjM M W))∧(∀ W,Kb 0 w W→Calls Try.prog 7 #[v] W (RjM M W))∧∃ p c,v = .slice p M.length c∧Arg p c M w:=by
 obtain ⟨M,hM,⟨rfl,rfl⟩ | ⟨a,c,rfl,hc,hb,hx⟩⟩:=h
 ·have ha:Arg none 0 [] w:=⟨Nat.le_refl _,fun hm=>absurd hm (by simp)⟩
  exact ⟨[],by simp,fun W k=>sp_rj_nil W,fun W k=>im_rj (M:=[]) W (ha.keep k) (by simp),none,0,rfl,ha⟩
 ·have ha:Arg (some a) c M w:=⟨hc,fun _=>⟨a,rfl,hx⟩⟩
  exact ⟨M,hM,fun W k=>sp_rj W hc (fun i x e=>k.cell (hx i x e)) (Nat.lt_of_lt_of_le hb k.size) (by omega),fun W k=>im_rj W (ha.keep k) (by omega),some a,c,rfl,ha⟩
theorem BwT.kg {b B:Nat} {w w':World} {v:Value} (h:BwT B w v) (hb:b < B) (k:Kg b w w'):BwT B w' v:=by
 obtain ⟨l,h1,h2,h3⟩:=h
 exact ⟨l,h1,h2,own_keep h3 (fun g e=>k.block g (h3.lt g e).2 (by have:=(h3.lt g e).1;omega))⟩
def DrB (W:World) (e:Ending) (w':World):Prop:=∃ v,e = .returned v∧ByR w' v∧Kb 0 W w'
def SmV (v:Gv):Prop:=v.x.size≤5 ∧ -1≤v.m∧v.m≤2000000
def SmF (n:Nat) (F:Nat→Td):Prop:=n≤5∧∀ q,q < n→(F q).c≤25∧∀ j,j < (F q).c→SmV ((F q).C j)
theorem smv_num (z:Int) (h1 : -1≤z) (h2:z≤2000000):SmV (nmV z):=⟨by show 0≤5;omega,h1,h2⟩
theorem smv_nod (z:Int):SmV (ndV z):=⟨by show 0≤5;omega,by show (-1:Int)≤0;omega,by show (0:Int)≤2000000;omega⟩
theorem smv_txt (s:ByteArray) (h:s.size≤5):SmV (txV s):=⟨h,by show (-1:Int)≤0;omega,by show (0:Int)≤2000000;omega⟩
theorem smF_j {L : List ByteArray} {pl pc mm : Nat} {T : Nat → Gv} (h1 : L.length ≤ 25) (h2 : ∀ s, s ∈ L → s.size ≤ 5) (h3 : pl < 80) (h4 : pc < 9) (h5 : mm ≤ 2) (h6 : ∀ i, i < mm → SmG (T i)) :
  SmF (3+mm) (jF ⟨L.length,fun i=>L.getD i ⟨#[]⟩,(pl:Int) - 1,(pc:Int),mm,T⟩):=by
 refine ⟨by omega,fun i hi=>?_⟩
 unfold jF
 by_cases e0:i=0
 ·rw [if_pos e0]
  refine ⟨by show 4≤25;omega,fun j hj=>?_⟩
  show SmV (four (nmV ((pl:Int) - 1)) (nmV (pc:Int)) (ndV 1) (ndV 2) j)
  rcases four_x (nmV ((pl:Int) - 1)) (nmV (pc:Int)) (ndV 1) (ndV 2) j with e | e | e | e <;> rw [e]
  ·exact smv_num _ (by omega) (by omega)
  ·exact smv_num _ (by omega) (by omega)
  ·exact smv_nod _
  ·exact smv_nod _
 rw [if_neg e0]
 by_cases e1:i=1
 ·rw [if_pos e1]
  refine ⟨h1,fun j hj=>smv_txt _ ?_⟩
  have hj':j < L.length:=hj
  show (L.getD j ⟨#[]⟩).size≤5
  rw [List.getD_eq_getElem?_getD,List.getElem?_eq_getElem hj']
  exact h2 _ (List.getElem_mem hj')
 rw [if_neg e1]
 by_cases e2:i=2
 ·rw [if_pos e2]
  exact ⟨by show mm≤25;omega,fun j hj=>smv_nod _⟩
 rw [if_neg e2]
 obtain ⟨a1,a2,a3,a4,a5,a6,a7⟩:=h6 (i - 3) (by omega)
 refine ⟨by show 4≤25;omega,fun j hj=>?_⟩
 show SmV (four (nmV (T (i - 3)).k) (nmV (T (i - 3)).m) (nmV (T (i - 3)).r) (txV (T (i - 3)).x) j)
 rcases four_x (nmV (T (i - 3)).k) (nmV (T (i - 3)).m) (nmV (T (i - 3)).r) (txV (T (i - 3)).x) j with e | e | e | e <;> rw [e]
 ·exact smv_num _ (by omega) (by omega)
 ·exact smv_num _ (by omega) (by omega)
 ·exact smv_num _ (by omega) (by omega)
 ·exact smv_txt _ (by omega)
theorem SmF.updV {n:Nat} {F:Nat→Td} (h:SmF n F) (V:Nat→Value) (g i:Nat) {x:Gv} (hx:SmV x):SmF n (updV F V g i x):=by
 refine ⟨h.1,fun q hq=>⟨(h.2 q hq).1,fun j hj=>?_⟩⟩
 show SmV (if (V q).ownBlock=some g∧j=i then x else (F q).C j)
 split
 ·exact hx
 ·exact (h.2 q hq).2 j hj
theorem SmF.updT {n:Nat} {F:Nat→Td} (h:SmF n F) (k:Nat) (t:Int):SmF n (updT F k t):=⟨h.1,fun q hq=>h.2 q hq⟩
theorem SmF.bg {n:Nat} {F:Nat→Td} (h:SmF n F):Bg n F (ndV 0)∧Rg n F (ndV 0):=by
 refine ⟨⟨by have:=h.1;omega,by show 0≤1048576;omega,fun i hi=>by have:=(h.2 i hi).1;omega,fun i hi j hj=>by have:=((h.2 i hi).2 j hj).1;omega⟩,⟨⟨by show -9223372036854775808≤(0:Int);omega,by show (0:Int)≤9223372036854775807;omega⟩,fun i hi j hj=>?_⟩⟩
 obtain ⟨-,a,b⟩:=(h.2 i hi).2 j hj
 omega
theorem sm_packed {n:Nat} {F:Nat→Td} {v:Value} {w W:World} (h:SmF n F) (hk:Kb 0 w W) (hr:RowT 0 W v n F):Calls Try.prog 31 #[.agg #[.int .i64 4,.int .i64 0,.string ⟨#[]⟩,.int .i64 0,v]] W fun e w'=>DrB w e w':=by
 refine (sp_pack (a:=ndV 0) W hr h.bg.1 h.bg.2).mono ?_
 rintro e w' ⟨v',rfl,ho,hk'⟩
 exact ⟨v',rfl,BwT.byr ⟨_,pck_bok h.bg.2,pck_len9 _ _ _,ho⟩,hk.trans hk'⟩
theorem tag_set {B:Nat} {W:World} {n k cn gn:Nat} {F:Nat→Td} {V:Nat→Value} (t:Int) (h:TH B W (.slice (some ⟨gn,0,none⟩) n cn) n F V) (hk:k < n):W.cell? ⟨gn,k*2,none⟩=some (.int .i64 (F k).t)∧W.frozen? ⟨gn,k*2,none⟩=false∧B≤gn∧n≤cn∧(∀ q,q ≠ gn→(W.setCell ⟨gn,k*2,none⟩ (.int .i64 t)).heap[q]? = W.heap[q]?)∧RowT 0 (W.setCell ⟨gn,k*2,none⟩ (.int .i64 t)) (.slice (some ⟨gn,0,none⟩) n cn) n (updT F k t):=by
 obtain ⟨g',cap',cur',e,hB,hz,hc,hb,hcell⟩:=h.at (by omega)
 injection e with e1 e2 e3
 injection e1 with e1
 injection e1 with e1 _ _
 subst e1 e3
 have ho:∀ q,q ≠ gn→(W.setCell ⟨gn,k*2,none⟩ (.int .i64 t)).heap[q]? = W.heap[q]?:=fun q hq=>Below.heap_setCell _ _ _ _ hq
 refine ⟨(hcell k hk).1,frozen_of hb,hB,hc,ho,h.putT hk hb ho (World.cell?_setCell_same _ _ _ (hcell k hk).1) (fun j hj=>World.cell?_setCell_other W ⟨gn,k*2,none⟩ ⟨gn,j,none⟩ _ (fun q=>by injection q with _ q _;exact hj q.symm))⟩
def w4s (W:World) (g o:Nat) (x:Gv):World:=(((W.setCell ⟨g,o,none⟩ (.int .i64 x.k)).setCell ⟨g,o+1,none⟩ (.int .i64 x.m)).setCell ⟨g,o+2,none⟩ (.string x.x)).setCell ⟨g,o+3,none⟩ (.int .i64 x.r)
theorem ne_off {g a b:Nat} (h:a ≠ b):(⟨g,a,none⟩:Addr) ≠ ⟨g,b,none⟩:=fun q=>h (by injection q)
theorem w4s_same {W : World} {g o : Nat} (x : Gv) {y0 y1 y2 y3 : Value} (h0 : W.cell? ⟨g, o, none⟩ = some y0) (h1 : W.cell? ⟨g, o + 1, none⟩ = some y1) (h2 : W.cell? ⟨g, o + 2, none⟩ = some y2) (h3 : W.cell? ⟨g, o + 3, none⟩ = some y3) :
  (∀ t,t < 4→(w4s W g o x).cell? ⟨g,o+t,none⟩=(gcl x)[t]?)∧(∀ j,(∀ t,t < 4→j ≠ o+t)→(w4s W g o x).cell? ⟨g,j,none⟩=W.cell? ⟨g,j,none⟩):=by
 have oth:∀ (W:World) (a b:Nat) (v:Value),a ≠ b→(W.setCell ⟨g,a,none⟩ v).cell? ⟨g,b,none⟩=W.cell? ⟨g,b,none⟩:=fun W a b v h=>World.cell?_setCell_other W ⟨g,a,none⟩ ⟨g,b,none⟩ v (ne_off h)
 unfold w4s
 refine ⟨fun t ht=>?_,fun j hj=>?_⟩
 ·rcases (by omega:t=0∨t=1∨t=2∨t=3) with rfl | rfl | rfl | rfl
  ·rw [oth _ _ _ _ (by omega),oth _ _ _ _ (by omega),oth _ _ _ _ (by omega)]
   exact World.cell?_setCell_same _ _ _ h0
  ·rw [oth _ _ _ _ (by omega),oth _ _ _ _ (by omega)]
   exact World.cell?_setCell_same _ _ _ ((oth _ _ _ _ (by omega)).trans h1)
  ·rw [oth _ _ _ _ (by omega)]
   exact World.cell?_setCell_same _ _ _ ((oth _ _ _ _ (by omega)).trans ((oth _ _ _ _ (by omega)).trans h2))
  ·exact World.cell?_setCell_same _ _ _ ((oth _ _ _ _ (by omega)).trans ((oth _ _ _ _ (by omega)).trans ((oth _ _ _ _ (by omega)).trans h3)))
 ·have a0:=hj 0 (by omega);have a1:=hj 1 (by omega);have a2:=hj 2 (by omega);have a3:=hj 3 (by omega)
  rw [oth _ _ _ _ (by omega),oth _ _ _ _ (by omega),oth _ _ _ _ (by omega),oth _ _ _ _ (by omega)]
theorem val_set {B:Nat} {W:World} {n k i c ck:Nat} {pk:Option Addr} {u:Value} {F:Nat→Td} {V:Nat→Value} (x:Gv) (h:TH B W u n F V) (hk:k < n) (hc:c=(F k).c) (hV:V k = .slice pk c ck) (hi:i < c):∃ gk,pk=some ⟨gk,0,none⟩∧B≤gk∧c≤ck∧(∃ cur,W.heap[gk]? = some (.cells cur 41 (0,0)))∧(∃ a0 a1 a2 a3,W.cell? ⟨gk,i*4,none⟩=some (.int .i64 a0)∧W.cell? ⟨gk,i*4+1,none⟩=some (.int .i64 a1)∧W.cell? ⟨gk,i*4+2,none⟩=some (.string a2)∧W.cell? ⟨gk,i*4+3,none⟩=some (.int .i64 a3))∧(∀ q,q ≠ gk→(w4s W gk (i*4) x).heap[q]? = W.heap[q]?)∧RowT 0 (w4s W gk (i*4) x) u n (updV F V gk i x):=by
 subst hc
 obtain ⟨gk,capk,curk,ek,eo,hBk,hzk,hck,hbk,hcell⟩:=own_blk (h.vs k hk) (by omega)
 rw [hV] at ek
 injection ek with q1 q2 q3
 subst q1 q3
 have at':∀ t,t < 4→W.cell? ⟨gk,i*4+t,none⟩=(gcl ((F k).C i))[t]?:=fun t ht=>(hcell (i*4+t) (by omega)).trans (vls_at _ ht hi)
 have ho:∀ q,q ≠ gk→(w4s W gk (i*4) x).heap[q]? = W.heap[q]?:=fun q hq=>by
  unfold w4s
  rw [Below.heap_setCell _ _ _ _ hq,Below.heap_setCell _ _ _ _ hq,Below.heap_setCell _ _ _ _ hq,Below.heap_setCell _ _ _ _ hq]
 obtain ⟨s1,s2⟩:=w4s_same (W:=W) (g:=gk) (o:=i*4) x (at' 0 (by omega)) (at' 1 (by omega)) (at' 2 (by omega)) (at' 3 (by omega))
 exact ⟨gk,rfl,hBk,hck,⟨_,hbk⟩,⟨_,_,_,_,at' 0 (by omega),at' 1 (by omega),at' 2 (by omega),at' 3 (by omega)⟩,ho,h.putV hbk ho s1 (fun j t ht hj=>s2 _ (fun t' ht'=>by omega))⟩
def six (i:Nat):Gv:=if i=0 then ⟨0,0,⟨#[]⟩,0⟩ else if i=1 then nmV (-1) else if i=2 then nmV 7 else if i=3 then nmV 2000000 else if i=4 then txV ⟨#[120]⟩ else ndV 0
theorem six_sm (i:Nat):SmV (six i):=by
 unfold six
 split
 ·exact ⟨by show 0≤5;omega,by show (-1:Int)≤0;omega,by show (0:Int)≤2000000;omega⟩
 split
 ·exact smv_num _ (by omega) (by omega)
 split
 ·exact smv_num _ (by omega) (by omega)
 split
 ·exact smv_num _ (by omega) (by omega)
 split
 ·exact smv_txt _ (by decide)
 ·exact smv_nod _
theorem six_cells {W : World} {Z : Nat} (h : W.heap[Z]? = some (.cells #[.int .i64 0, .int .i64 0, .string ⟨#[]⟩, .int .i64 0, .int .i64 1, .int .i64 (-1), .string ⟨#[]⟩, .int .i64 0, .int .i64 1, .int .i64 7, .string ⟨#[]⟩, .int .i64 0, .int .i64 1, .int .i64 2000000, .string ⟨#[]⟩, .int .i64 0, .int .i64 3, .int .i64 0, .string ⟨#[120]⟩, .int .i64 0, .int .i64 4, .int .i64 0, .string ⟨#[]⟩, .int .i64 0] 41 (0, 0))) {i : Nat} (hi : i < 6) :
  W.cell? ⟨Z,i*4,none⟩=some (.int .i64 (six i).k)∧W.cell? ⟨Z,i*4+1,none⟩=some (.int .i64 (six i).m)∧W.cell? ⟨Z,i*4+2,none⟩=some (.string (six i).x)∧W.cell? ⟨Z,i*4+3,none⟩=some (.int .i64 (six i).r):=by
 rcases (by omega:i=0∨i=1∨i=2∨i=3∨i=4∨i=5) with rfl | rfl | rfl | rfl | rfl | rfl <;>
  exact ⟨cell_of h rfl,cell_of h rfl,cell_of h rfl,cell_of h rfl⟩
end Go.Proofs.Ytamcnmnaadpfoaa.Fo
